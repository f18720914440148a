import PyProof.Rows.All
import Wide.All
import OpenK.AllK
import Wide.FinOn
import PyProof.EqAt
import PyProof.EqKinds
import PyProof.TupleCall
import Open.SpecLaws
import KE.OsGo
import KE.KExcInit
import HandS.ForSpec
import HandS.ExcInit
import HandS.ExcSuper
import HandS.ClsMeth
import HandS.ExcField
import HandS.Comp
import HandS.SetFor
import HandS.Iter
import HandS.Deep
import HandS.Walk
import PySem.Challenge.RW_seatwave_s01_answers
import PyKv439
set_option Elab.async false
set_option linter.all false
set_option maxRecDepth 100000
set_option maxHeartbeats 4000000
/-! Own error classes over Exception, one under another; each `__init__` is a def of the text: the base's is called by its class. -/
namespace Sw
open PySem PySem.W PySem.Calls PyProof.Rows
/-- what the written part says of such a class -/
structure ErrC (K : Frag) (C : Addr) : Prop where
  ini : excInitIn K C PySem.ESX.exTail "Exception.__new__" = true
  ovr : excOver K C PySem.ESX.exTail = true
  nc : findIn K (.ref C) "code" = some none
  sa : findIn K (.ref C) "__setattr__" = some (some (.builtin "object.__setattr__"))
  exC : subIn K (.ref C) (.type "BaseException") = some true
  tyC : typeIn K (.ref C) = some (.type "type")
  kC : keepIn K (.ref C) = true
  hdC : hasDictIn K C = true
section
open Builtin Builtin.ObjectAttr
variable {prog : Program} {w : World} {A : Around} {R : Result → Shared → Prop}
variable {hp : Heap} {g : Array GenState} {d : Drawn} {t : Nat} {os : OsState}
/-- the first field of an error of an own class -/
theorem field_new {K : W.Frag} {name : Str} {tk : Tok} {v : Value} {x C : Addr} {fv : Array Value}
    (X : K.In hp) (hx : hp.get? x = some { cls := .ref C, data := .fields fv })
    (ho : excOver K C PySem.ESX.exTail = true) (hh : hasDictIn K C = true)
    (ha : W.findIn K (.ref C) name = some none)
    (hq : ∀ h' tk' dx,
      (∀ b o, b ≠ x → hp.get? b = some o → h'.get? b = some o) → hp.objs.size ≤ dx → dx ≠ x →
      h'.get? x = some { cls := .ref C, dict := some dx, data := .fields fv } →
      h'.Ns1 dx (fun y => if y = name then some v else none) →
      R (.ok (.ret .none)) ⟨h', g, d, tk', os⟩) :
    codeAny (model prog w) A
      (.call (.builtin "object.__setattr__") ⟨[.ref x, .str name tk, v], []⟩) R ⟨hp, g, d, t, os⟩ := by
  have hxs : hp.objs.size ≠ x := fun z => Nat.lt_irrefl _ (z ▸ Heap.lt_size hx)
  have tk0 : takerIn K C name = some none := by
    unfold takerIn
    rw [ha]
    rfl
  obtain ⟨cd, hc, hd'⟩ := any_some hh
  have cl : W.Looks (model prog w) hp (classData C) cd := W.looks_clsIn X hc
  refine osa_openX (s := ⟨hp, g, d, t, os⟩) (od := none) F.store_Exception X ⟨hx, rfl, rfl, trivial⟩ ho tk0 fun b => ?_
  show wpAny _ _ (storeInOwnDict (.ref x) (.ref C) (.str name tk) name v b) _ _ _
  obtain ⟨nm, bs, mro, ns, qn, hd, sn, sb, ab, col, del⟩ := cd
  dsimp only at hd'
  subst hd'
  unfold storeInOwnDict ownDictForStores
  repeat
    first
    | with_reducible refine PySem.HandSPX.store_in_new ?_ ?_
    | with_reducible refine wpAny_loadPart_at hx ?_
    | with_reducible refine cl.at ?_
    | wp_step
  · exact ⟨_, #[], _, (Heap.get?_update_ne _ _ _ _ hxs).trans (Heap.get?_push_at rfl rfl), rfl,
      fun e he => absurd he (by simp), fun _ => rfl⟩
  · intro h' tk' hn' hs
    have old : ∀ b o, hp.get? b = some o →
        (hp.push { cls := .type "dict", data := .dict #[] }).get? b = some o :=
      fun b o e => Heap.get?_push_of_some _ e
    refine hq h' tk' hp.objs.size (fun b o hb ho => ?_) (Nat.le_refl _) hxs ?_ hn'
    · have nb := Nat.ne_of_lt (Heap.lt_size ho)
      rw [hs.2 b nb, Heap.get?_update_ne _ _ _ _ hb]
      exact old b o ho
    · rw [hs.2 x hxs.symm]
      exact Heap.get?_update_self _ (old x _ hx) rfl
end

end Sw
namespace Sw
open PySem PySem.Spec PyProof.Rows L2
theorem type_exception : typeOf (.type "Exception") = pure (.type "type") := by kernel_rfl
section
variable {X : Cx} {pins : List (Addr × Obj)} {σ : L2.St} {H : Hp} {s : Shared} {a C dx : Addr}
variable {y : V} {u : Value} {E : Value → Shared → Prop} {A : Around}
/-- self.code = y -/
theorem store_code {Q : Unit → Shared → Prop} (T : ErrC X.K C) (I : Inv X pins σ H s)
    (e : H a = some (exo a C none)) (ry : RelV y u)
    (h : ∀ dx s', H dx = none → dx ≠ a →
      Inv X pins σ (upd (upd H dx (exd dx [("code", y)])) a (exo a C (some dx))) s' → Q () s') :
    wpAny (model X.prog X.w) A (setAttr (.ref a) "code" u) Q E s := by
  obtain ⟨t1, ho⟩ := exo_at I.hok e
  obtain ⟨hp, g, d, t, os⟩ := s
  refine PySem.W.set_plain I.kIn
    (ox := { cls := .ref C, dict := none, data := .fields #[.ref t1, .none, .none, .none, .bool false, .none] })
    (od := none) ⟨ho, rfl, rfl, trivial⟩ T.sa ?_
  refine field_new I.kIn ho T.ovr T.hdC T.nc (fun h' tk' dx k dn dne hx hn => ?_)
  have nod : H dx = none := I.hok.fresh dn
  have lt : ∀ {b : Addr} {o : Obj}, hp.get? b = some o → b ≠ dx :=
    fun q z => Nat.lt_irrefl _ (Nat.lt_of_lt_of_le (z ▸ Heap.lt_size q) dn)
  have na : ∀ {b : Addr}, H b = none → b ≠ a := fun n z => by
    rw [z, e] at n
    cases n
  have two : ∀ {b : Addr}, b ≠ a → b ≠ dx →
      upd (upd H dx (exd dx [("code", y)])) a (exo a C (some dx)) b = H b := fun p q => by
    rw [upd_ne p, upd_ne q]
  have un : Un X.fs [] H (upd (upd H dx (exd dx [("code", y)])) a (exo a C (some dx))) hp h' :=
    { keep := fun b o q n _ _ => k b o (na n) q
      slot := fun b o q n _ _ => ⟨o.slots, k b o (na n) q⟩
      free := fun b o q n _ => (two (na n) (lt q)).trans n
      there := fun b o q _ => by
        by_cases hb : b = a
        · rw [hb]
          exact ⟨_, hx⟩
        · exact ⟨o, k b o hb q⟩
      tups := fun b xs q => (two (at_ne e q exo_tup) (ne_of_none q nod)).trans q
      frzs := fun b o v q => (two (at_ne e q exo_frz) (ne_of_none q nod)).trans q
      tbls := fun b ps q => ⟨#[], by rw [two (at_ne e q exo_tbl) (ne_of_none q nod), q]; simp⟩ }
  refine h dx _ nod dne (I.un (t' := tk') un fun b o q => ?_)
  by_cases hb : b = a
  · rw [hb] at q ⊢
    rw [upd_same] at q
    cases q
    exact exo_ok hx
  · rw [upd_ne hb] at q
    by_cases hd : b = dx
    · rw [hd] at q ⊢
      rw [upd_same] at q
      cases q
      exact exd_ok hn (relO_put (fs := []) ry fun _ => True.intro)
    · rw [upd_ne hd] at q
      refine (I.hok b o q).stay (fun c v hc z => k c v ?_ z) (fun c hc => ?_) (fun c xs hc => ?_)
      · rcases hc with hc | hc
        · rw [hc]
          exact hb
        · exact at_ne e hc exo_own
      · exact (two (at_ne e hc exo_own) (ne_of_none hc nod)).trans hc
      · exact (two (at_ne e hc exo_tup) (ne_of_none hc nod)).trans hc
/-- Exception.__init__(self): nothing of it is told -/
theorem base_init {us : List Value} {Q : Value → Shared → Prop} (T : ErrC X.K C) (I : Inv X pins σ H s)
    (e : H a = some (exo a C none)) (hl : us.length ≤ sizeLine)
    (h : ∀ s', Inv X pins σ H s' → Q .none s') :
    wpAny (model X.prog X.w) A (call (.builtin "Exception.__init__") (.ref a :: us)) Q E s := by
  obtain ⟨t1, ho⟩ := exo_at I.hok e
  obtain ⟨nm, N, qn, bs, bm, hdct, sn, sub, ab, col, dd, k0, k1, k2, k3, k5, hC, hT⟩ :=
    PySem.W.excInit_of I.kIn T.ini
  obtain ⟨hp, g, d, t, os⟩ := s
  refine wpAny_call (PySem.HandSPX.init_base F.excBase_Exception hT hC ho hl fun h' t2 k hx => ?_)
  have J := I.write (t' := t) (x := a) (e := a) (o := exo a C none)
    (by rw [e]; exact True.intro) (.inl rfl) k ⟨_, hx⟩ (exo_ok hx)
  have same : upd H a (exo a C none) = H := by
    funext b
    by_cases hb : b = a
    · rw [hb, upd_same, e]
    · exact upd_ne hb
  rw [same] at J
  exact h _ J
end
/-- Exception.__init__(self, ..) -/
def tBaseI (K : PySem.W.Frag) (ta : TA) : TE := fun σ H Q => ta σ H fun vs H1 =>
  ∃ (a C : Addr) (ws : List V), vs = .ref a :: ws ∧ ws.length ≤ 1000 ∧ ErrC K C ∧ H1 a = some (exo a C none) ∧ Q .non H1
/-- self.code = e, the first field -/
def tCode (K : PySem.W.Frag) (to te : TE) : TS := fun D σ H => te σ H fun y H1 => to σ H1 fun x H2 =>
  ∃ a C : Addr, x = .ref a ∧ ErrC K C ∧ H2 a = some (exo a C none) ∧
    ∀ dx, H2 dx = none → dx ≠ a → D.nx σ (upd (upd H2 dx (exd dx [("code", y)])) a (exo a C (some dx)))
/-- C(), its __init__ keeping sp -/
def tMkE (C : Addr) (sp : Sp) : L2.St → Hp → XK → Prop := fun σ H Q =>
  ∀ a, H a = none → sp [.ref a] (upd H a (exo a C none))
    (fun v H2 => v = .non ∧ ∃ (d : Addr) (fs : List (Str × V)), H2 a = some (exo a C (some d)) ∧ H2 d = some (exd d fs) ∧
      H d = none ∧ Q (.ref C) (some d) (upd (del H2 a) d (.xd fs))) (fun _ _ _ => False)
section
variable {X : Cx} {o e : Expr} {es : List Expr} {to te : TE} {ta : TA} {p p' p1 p2 pos : Pos} {x : Str}
theorem pe_base {pl : Sem Bool} (hg : Gl X "Exception") (hm : X.mg "Exception" = none)
    (vV : PySem.W.findCls X.K (.type "Exception") (.type "type") "__init__" = some (.val (.builtin "Exception.__init__")))
    (ha : PA X (e :: es) ta)
    (hc : eval (.Call (.Attribute (.Name "Exception" p1) "__init__" p2) (e :: es) [] pos) X.env = (do
      let c ← eval (.Name "Exception" p1) X.env
      standAt p2.atName
      let (f, first) ← holding [c] (getMethod c "__init__" pl)
      callWith pos f first (backTo pos (starEach (e :: es) X.env))
        (backToKw pos (keywordEach [] X.env))) := by rfl)
    (he : starEach (e :: es) X.env = (false, eval e X.env) :: starEach es X.env := by rfl)
    (hpl : (backTo pos (starEach es X.env)).any (·.1) = false := by rfl) :
    PE X (.Call (.Attribute (.Name "Exception" p1) "__init__" p2) (e :: es) [] pos) (tBaseI X.K ta) := by
  refine ⟨fun pins s σ H Q I h => ?_⟩
  refine PySem.W.methodCall_KW (ld_blt I hg hm (by first | exact PyProof.Rows.Boot.«Exception» | decide +kernel) ?_ (by decide) (by decide)) hc
  obtain ⟨m, fr⟩ := I.fr
  refine PySem.W.method_type fr I.ok.mod.kin type_exception (by decide +kernel) vV (by decide +kernel) ?_
  show wpAny _ _ (callWith pos (Value.builtin "Exception.__init__") [] (backTo pos (starEach (e :: es) X.env)) []) _ _ _
  refine PyProof.Rows.callWith_method1
    (thn (ha.run pos pins _ σ H _ (I.tok _) h) fun us s1 ⟨vs, H1, I1, r1, a, C, ws, ev, hl, T, ea, q⟩ => ?_) he hpl
  subst ev
  cases r1 with
  | @cons _ u0 _ ur ra rw' =>
    obtain rfl : u0 = Value.ref a := ra
    have z : ur.length ≤ sizeLine := by
      rw [← Paired.length rw', sizeLine_eq]
      omega
    exact base_init T I1 ea z fun s' J => ⟨.non, H1, J, rfl, q⟩
theorem ps_code (ho : PE X o to) (he : PE X e te)
    (hs : swapsWith e (some (.Attribute o "code" p')) pos.line X.env = pure false := by rfl) :
    PS X (.Assign [.Attribute o "code" p'] e pos) (tCode X.K to te) := by
  refine ⟨fun pins s σ H D I h => ?_⟩
  refine plainObj_wpAny_Assign_Attribute (thn (he.run pins s σ H _ I h) fun v s1 hv => ?_) hs
  obtain ⟨y, H1, I1, r1, q1⟩ := hv
  refine thn (ho.run pins s1 σ H1 _ I1 q1) fun u s2 hu => ?_
  obtain ⟨x, H2, I2, r2, a, C, ex, T, ea, q⟩ := hu
  subst ex
  obtain rfl : u = Value.ref a := r2
  exact store_code T I2 ea r1 fun dx s' n ne J => ⟨σ, _, J, q dx n ne⟩
/-- B.__init__(e, ..), B an own class: its def is called as it stands -/
theorem pe_over {pl : Sem Bool} {CX : CXT} {k : Nat} {f CR : Addr} {fd : FuncData} {ps : List Str} {sp : Sp} {E : XK}
    (r : ClX.CRead X.K CR (.type "type"))
    (at_ : PySem.W.findCls X.K (.ref CR) (.type "type") "__init__" = some (.val (.ref f)))
    (kf : PySem.W.keepIn X.K (.ref f) = true)
    (G : FnOk X.prog X.w X.K X.mg X.base CX k f fd ps sp) (hr : Room k X.A) (hb : Binds X.K fd ps [])
    (hx : Passes CX X E) (hg : Gl X x) (hm : X.mg x = some (.ref CR)) (ha : PA X (e :: es) ta)
    (hdb : (x == ("__debug__" : Str)) = false := by decide)
    (hc : eval (.Call (.Attribute (.Name x p1) "__init__" p2) (e :: es) [] pos) X.env = (do
      let c ← eval (.Name x p1) X.env
      standAt p2.atName
      let (f, first) ← holding [c] (getMethod c "__init__" pl)
      callWith pos f first (backTo pos (starEach (e :: es) X.env))
        (backToKw pos (keywordEach [] X.env))) := by rfl)
    (he : starEach (e :: es) X.env = (false, eval e X.env) :: starEach es X.env := by rfl)
    (hpl : (backTo pos (starEach es X.env)).any (·.1) = false := by rfl) :
    PE X (.Call (.Attribute (.Name x p1) "__init__" p2) (e :: es) [] pos) (tCall sp [] E ta) := by
  refine ⟨fun pins s σ H Q I h => ?_⟩
  refine PySem.W.methodCall_KW (pl := pl) (ld_glob I hg hm ?_ hdb) hc
  refine PySem.W.method_cls I.kIn r.ga ?_
  refine PySem.W.cls_value I.kIn r.rd at_ rfl ?_
  refine PySem.W.callWith_K (first := []) (h₀ := X.base) I.ok.mod.kin kf
    (thn (ha.run pos pins _ σ H _ (I.tok _) h) fun us s2 hh => ?_) he hpl
  obtain ⟨vs, H2, I2, rv, q⟩ := hh
  exact ⟨I2.kIn, run_fn G hr hb .nil hx I2 rv q⟩
/-- C() of an own error class -/
theorem pmk_err {CX : CXT} {C fI : Addr} {k : Nat} {fd : FuncData} {ps : List Str} {sp : Sp} (T : ErrC X.K C)
    (iC : PySem.W.findIn X.K (.ref C) "__init__" = some (some (.ref fI)))
    (tI : PySem.W.typeIn X.K (.ref fI) = some (.type "function"))
    (G : FnOk X.prog X.w X.K X.mg X.base CX k fI fd ps sp) (hr : Room (k + 1) X.A) (hb : Binds X.K fd ps [])
    (hx : Passes CX X (fun _ _ _ => False)) (hg : Gl X x) (hm : X.mg x = some (.ref C))
    (hdb : (x == ("__debug__" : Str)) = false := by decide) :
    PMk X (.Call (.Name x p) [] [] pos) (fun σ H Q => tMkE C sp σ H Q) := by
  intro pins s σ H Q I q1
  refine wpAny_Call_Name_kw (ld_glob I hg hm ?_ hdb)
  refine PySem.W.callWith_K0 I.kIn T.kC ?_
  obtain ⟨nm, N, qn, bs, bm, hdct, sn, sub, ab, col, dd, k0, k1, k2, k3, k5, hC, hT⟩ :=
    PySem.W.excInit_of I.kIn T.ini
  obtain ⟨hp, g, dr, tk, os⟩ := s
  have big : hp.objs.size ≤ hp.objs.size + 1 := Nat.le_succ _
  have hn : H (hp.objs.size + 1) = none := I.hok.fresh big
  have hq := q1 (hp.objs.size + 1) hn
  have old : ∀ b o, hp.get? b = some o →
      ((hp.push (PySem.W.kdv_tup [])).push (PySem.HandSPX.excO C hp.objs.size)).get? b = some o :=
    fun b o e => Heap.get?_push_of_some _ (Heap.get?_push_of_some _ e)
  have new : ((hp.push (PySem.W.kdv_tup [])).push (PySem.HandSPX.excO C hp.objs.size)).get?
      (hp.objs.size + 1) = some (PySem.HandSPX.excO C hp.objs.size) := by heap_get
  have I2 : Inv X pins σ (upd H (hp.objs.size + 1) (exo (hp.objs.size + 1) C none))
      ⟨(hp.push (PySem.W.kdv_tup [])).push (PySem.HandSPX.excO C hp.objs.size), g, dr, tk, os⟩ :=
    I.laid (t' := tk) (a := hp.objs.size + 1) (o := exo (hp.objs.size + 1) C none) old big (exo_ok new)
  have r2 : Vals [V.ref (hp.objs.size + 1)] [Value.ref (hp.objs.size + 1)] := .cons rfl .nil
  have hl : ([Value.ref (hp.objs.size + 1)] ++ ([] : List Value)).length = ps.length :=
    (G.len _ _ _ _ hq)
  refine wpAny_call (PySem.HandSPX.call_own F.excBase_Exception hT hC
    (PySem.W.looks_findIn I.kIn iC) (fun self => PySem.W.bind_fn I.kIn self tI) (Nat.zero_le _) ?_)
  refine codeAny_mono (G.run _ X.stack _ _ ⟨[Value.ref (hp.objs.size + 1)], []⟩ [Value.ref (hp.objs.size + 1)]
    _ _ (fun _ _ _ => False) (hr.make C [] []) (I2.env0.make C [] [])
    (hb _ [Value.ref (hp.objs.size + 1)] I2.kIn hl) r2 hq) fun r s' z => ?_
  cases r with
  | error er => exact hx pins σ _ _ er s' I2 z
  | ok fl =>
    cases fl with
    | ret u =>
      obtain ⟨v, H2, os2, bare2, un2, hok2, rv, ev, d, fs, ea, ed, hd1, q2⟩ := z
      subst ev
      obtain ⟨h2, g2, d2, t2, os'⟩ := s'
      exact ⟨rv, mk_end (raises_own T.exC T.tyC) I big old un2 hok2 os2 bare2 ea ed hd1 q2⟩
    | next => exact z.elim
    | brk => exact z.elim
    | cont => exact z.elim
end
end Sw

set_option Elab.async false
set_option linter.all false
set_option maxRecDepth 100000
set_option maxHeartbeats 4000000
namespace Sw
open PySem PySem.Spec PyProof.Rows L2
/-- the def at f keeps the promise, and its arguments meet its parameters one by one -/
structure Good (P : Program) (w : World) (K : PySem.W.Frag) (mg : Str → Option Value) (base : Heap) (CX : CXT) (k : Nat)
    (f : Addr) (ps : List Str) (sp : Sp) : Prop where
  ex : ∃ fd, FnOk P w K mg base CX k f fd ps sp ∧ Binds K fd ps []
  kp : PySem.W.keepIn K (.ref f) = true
section
variable {X : Cx} {CX : CXT} {k : Nat} {f C : Addr} {ps : List Str} {sp : Sp} {E : XK} {x m : Str}
variable {p pos apos : Pos} {e o : Expr} {es : List Expr} {ta : TE} {t : TA}
theorem pe_gi {n : Int} (hm : ∃ t, X.mg x = some (.int n t)) (hg : Gl X x := by rfl)
    (hd : (x == ("__debug__" : Str)) = false := by decide) : PE X (.Name x pos) (tC (.int n)) := by
  obtain ⟨u, hu⟩ := hm
  exact pe_glob hg hu ⟨_, rfl⟩ hd
theorem pe_callG (G : Good X.prog X.w X.K X.mg X.base CX k f ps sp) (hr : Room k X.A) (hm : X.mg x = some (.ref f))
    (hx : Passes CX X E) (ha : PA X (e :: es) t) (hg : Gl X x := by rfl)
    (hdb : (x == ("__debug__" : Str)) = false := by decide)
    (he : starEach (e :: es) X.env = (false, eval e X.env) :: starEach es X.env := by rfl)
    (hpl : (backTo pos (starEach es X.env)).any (·.1) = false := by rfl) :
    PE X (.Call (.Name x p) (e :: es) [] pos) (tCall sp [] E t) := by
  obtain ⟨fd, F, b⟩ := G.ex
  exact pe_call F hr hg hm G.kp b .nil hx ha hdb he hpl
theorem pe_callGS {E : L2.St → XK} (G : Good X.prog X.w X.K X.mg X.base CX k f ps sp) (hr : Room k X.A)
    (hm : X.mg x = some (.ref f)) (hx : ∀ σ, PassesAt CX X σ (E σ)) (ha : PA X (e :: es) t) (hg : Gl X x := by rfl)
    (hdb : (x == ("__debug__" : Str)) = false := by decide)
    (he : starEach (e :: es) X.env = (false, eval e X.env) :: starEach es X.env := by rfl)
    (hpl : (backTo pos (starEach es X.env)).any (·.1) = false := by rfl) :
    PE X (.Call (.Name x p) (e :: es) [] pos) (tCallS sp E t) := by
  obtain ⟨fd, F, b⟩ := G.ex
  exact pe_callS F hr hg hm G.kp b hx ha hdb he hpl
theorem pe_makeG {fI : Addr} (M : Mk X.K C fI) (G : Good X.prog X.w X.K X.mg X.base CX k fI ps sp) (hr : Room (k + 1) X.A)
    (hm : X.mg x = some (.ref C)) (hx : Passes CX X E) (ha : PA X (e :: es) t) (hg : Gl X x := by rfl)
    (hdb : (x == ("__debug__" : Str)) = false := by decide)
    (he : starEach (e :: es) X.env = (false, eval e X.env) :: starEach es X.env := by rfl)
    (hpl : (backTo pos (starEach es X.env)).any (·.1) = false := by rfl) :
    PE X (.Call (.Name x p) (e :: es) [] pos) (tMake C sp [] E t) := by
  obtain ⟨fd, F, b⟩ := G.ex
  exact pe_make M F hr hg hm b .nil hx ha hdb he hpl
theorem pe_makeG0 {fI : Addr} (M : Mk X.K C fI) (G : Good X.prog X.w X.K X.mg X.base CX k fI ps sp) (hr : Room (k + 1) X.A)
    (hm : X.mg x = some (.ref C)) (hx : Passes CX X E) (hg : Gl X x := by rfl)
    (hdb : (x == ("__debug__" : Str)) = false := by decide) :
    PE X (.Call (.Name x p) [] [] pos) (tMake C sp [] E tNil) := by
  obtain ⟨fd, F, b⟩ := G.ex
  exact pe_make0 M F hr hg hm b .nil hx hdb
theorem pe_methG {pl : Sem Bool} (he : PE X o ta) (c : Cls X.K C) (hm : Meth X.K C m f)
    (G : Good X.prog X.w X.K X.mg X.base CX k f ps sp) (hr : Room k X.A) (hx : Passes CX X E) (ha : PA X (e :: es) t)
    (hst : starEach (e :: es) X.env = (false, eval e X.env) :: starEach es X.env := by rfl)
    (hpl : (backTo pos (starEach es X.env)).any (·.1) = false := by rfl)
    (ht : eval (.Call (.Attribute o m apos) (e :: es) [] pos) X.env = (do
      let r ← eval o X.env
      standAt apos.atName
      let (f, first) ← holding [r] (getMethod r m pl)
      callWith pos f first (backTo pos (starEach (e :: es) X.env)) (backToKw pos (keywordEach [] X.env))) := by rfl) :
    PE X (.Call (.Attribute o m apos) (e :: es) [] pos) (tMeth C m sp [] E ta t) := by
  obtain ⟨fd, F, b⟩ := G.ex
  exact pe_meth he c hm F hr b .nil hx ha hst hpl ht
theorem pe_methG0 {pl : Sem Bool} (he : PE X o ta) (c : Cls X.K C) (hm : Meth X.K C m f)
    (G : Good X.prog X.w X.K X.mg X.base CX k f ps sp) (hr : Room k X.A) (hx : Passes CX X E)
    (ht : eval (.Call (.Attribute o m apos) [] [] pos) X.env = (do
      let r ← eval o X.env
      standAt apos.atName
      let (f, first) ← holding [r] (getMethod r m pl)
      callWith pos f first (backTo pos (starEach [] X.env)) (backToKw pos (keywordEach [] X.env))) := by rfl) :
    PE X (.Call (.Attribute o m apos) [] [] pos) (tMeth C m sp [] E ta tNil) := by
  obtain ⟨fd, F, b⟩ := G.ex
  exact pe_meth0 he c hm F hr b .nil hx ht
/-- o.m(e, ..) within a try: what it raises is wished for at the slots as they stand -/
def tMethS (C : Addr) (m : Str) (sp : Sp) (E : L2.St → XK) (ta : TE) (t : TA) : TE := fun σ H Q => ta σ H fun x H1 => ∃ a dx fs, x = .ref a ∧ H1 a = some (.ins C dx fs) ∧ fs.lookup m = none ∧ t σ H1 fun vs H2 => sp (x :: vs) H2 Q (E σ)
theorem pe_methGS {pl : Sem Bool} {E : L2.St → XK} (he : PE X o ta) (c : Cls X.K C) (hm : Meth X.K C m f)
    (G : Good X.prog X.w X.K X.mg X.base CX k f ps sp) (hr : Room k X.A) (hx : ∀ σ, PassesAt CX X σ (E σ))
    (ha : PA X (e :: es) t)
    (hst : starEach (e :: es) X.env = (false, eval e X.env) :: starEach es X.env := by rfl)
    (hpl : (backTo pos (starEach es X.env)).any (·.1) = false := by rfl)
    (ht : eval (.Call (.Attribute o m apos) (e :: es) [] pos) X.env = (do
      let r ← eval o X.env
      standAt apos.atName
      let (f, first) ← holding [r] (getMethod r m pl)
      callWith pos f first (backTo pos (starEach (e :: es) X.env)) (backToKw pos (keywordEach [] X.env))) := by rfl) :
    PE X (.Call (.Attribute o m apos) (e :: es) [] pos) (tMethS C m sp E ta t) := by
  obtain ⟨fd, F, hb⟩ := G.ex
  refine ⟨fun pins s σ H Q I h => ?_⟩
  refine PySem.W.methodCall_KW (pl := pl) (thn (he.run pins s σ H _ I h) fun u s1 ⟨x, H1, I1, rx, a, dx, fs, ex, ea, l, q⟩ => ?_) ht
  subst ex
  obtain rfl : u = Value.ref a := rx
  refine getmeth_ok I1 ea c hm l ?_
  refine PySem.W.callWith_K (first := [.ref a]) (h₀ := X.base) I.ok.mod.kin hm.kp (thn (ha.run pos pins s1 σ H1 _ I1 q) fun us s2 ⟨vs, H2, I2, r, q2⟩ => ⟨I2.kIn, ?_⟩) hst hpl
  exact run_fnS (us := .ref a :: us) (vs := .ref a :: vs) F hr hb (hx σ) I2 (.cons rfl r) q2
theorem pe_overG {pl : Sem Bool} {CR : Addr} {p1 p2 : Pos} (r : ClX.CRead X.K CR (.type "type"))
    (at_ : PySem.W.findCls X.K (.ref CR) (.type "type") "__init__" = some (.val (.ref f)))
    (G : Good X.prog X.w X.K X.mg X.base CX k f ps sp) (hr : Room k X.A)
    (hx : Passes CX X E) (hm : X.mg x = some (.ref CR)) (ha : PA X (e :: es) t) (hg : Gl X x := by rfl)
    (hdb : (x == ("__debug__" : Str)) = false := by decide)
    (hc : eval (.Call (.Attribute (.Name x p1) "__init__" p2) (e :: es) [] pos) X.env = (do
      let c ← eval (.Name x p1) X.env
      standAt p2.atName
      let (f, first) ← holding [c] (getMethod c "__init__" pl)
      callWith pos f first (backTo pos (starEach (e :: es) X.env))
        (backToKw pos (keywordEach [] X.env))) := by rfl)
    (he : starEach (e :: es) X.env = (false, eval e X.env) :: starEach es X.env := by rfl)
    (hpl : (backTo pos (starEach es X.env)).any (·.1) = false := by rfl) :
    PE X (.Call (.Attribute (.Name x p1) "__init__" p2) (e :: es) [] pos) (tCall sp [] E t) := by
  obtain ⟨fd, F, b⟩ := G.ex
  exact pe_over r at_ G.kp F hr b hx hg hm ha hdb hc he hpl
theorem pmk_errG {fI : Addr} (T : ErrC X.K C) (iC : PySem.W.findIn X.K (.ref C) "__init__" = some (some (.ref fI)))
    (tI : PySem.W.typeIn X.K (.ref fI) = some (.type "function"))
    (G : Good X.prog X.w X.K X.mg X.base CX k fI ps sp) (hr : Room (k + 1) X.A)
    (hx : Passes CX X (fun _ _ _ => False)) (hm : X.mg x = some (.ref C)) (hg : Gl X x := by rfl)
    (hdb : (x == ("__debug__" : Str)) = false := by decide) :
    PMk X (.Call (.Name x p) [] [] pos) (fun σ H Q => tMkE C sp σ H Q) := by
  obtain ⟨fd, F, b⟩ := G.ex
  exact pmk_err T iC tI F hr b hx hg hm hdb
end
/-- e.code, e the error that a suite holds at a: whichever own class it is of -/
def tErrF (K : PySem.W.Frag) (a : Addr) (cls : Value) (d : Option Addr) (n : Str) (te : TE) : TE := fun σ H Q => te σ H fun x H1 =>
  x = .ref a ∧ ∃ (C dd : Addr) (fs : List (Str × V)) (v : V), cls = .ref C ∧ XfC K C ∧ PySem.W.findIn K (.ref C) n = some none ∧
    d = some dd ∧ H1 dd = some (.xd fs) ∧ fs.lookup n = some v ∧ Q v H1
theorem pe_errF {X : Cx} {a : Addr} {oe : Obj} {cls : Value} {d : Option Addr} {pn : List (Addr × Obj)} {e : Expr} {te : TE}
    {pos : Pos} {n : Str} (hz : Zc cls d oe) (hf : ∃ vs, oe.data = .fields vs) (he : PE (X.suite a ((a, oe) :: pn)) e te)
    (hb : attributeBase e n X.env (eval e X.env) = eval e X.env := by rfl) :
    PE (X.suite a ((a, oe) :: pn)) (.Attribute e n pos) (tErrF X.K a cls d n te) := by
  refine ⟨fun pins s σ H Q I h => ?_⟩
  refine attr_of hb (thn (he.run pins s σ H _ I h) fun u s1 hh => ?_)
  obtain ⟨x, H1, I1, rx, ex, C, dd, fs, v, ec, T, hno, ed, ea, l, q⟩ := hh
  subst ex ec ed
  obtain rfl : u = Value.ref a := rx
  obtain ⟨vs, hd⟩ := hf
  have at_ := (I1.pin (a, oe) (List.mem_append_left _ List.mem_cons_self)).1
  have hx : ObjOk X.prog X.w H1 s1.heap dd (.xd fs) := I1.hok dd _ ea
  obtain ⟨mA, hns, hr⟩ := hx
  obtain ⟨od, ho, hl⟩ := lookIn_ns hns
  obtain ⟨u, hu, ru⟩ := RelO.some_of (v := v) (o := mA n) (by rw [← l]; exact hr n)
  have J : PySem.W.InstAt s1.heap a oe C (some od) :=
    ⟨at_, hz.1, by unfold PySem.W.notCls; rw [hd] <;> rfl, by rw [hz.2]; exact ho⟩
  refine HandSPX.exc_get I1.kIn J T.ga T.gg T.exC ?_ (handed_of ru) ⟨v, H1, I1.tok _, ru, q⟩
  exact PySem.W.findObj_own T.hdC hno rfl (by rw [hl, hu])
theorem u65 {k : Nat} {A : Around} (r : Room k A) : A.units + 65 < cLine := by have := r.un; omega
/-- the same rules, the written part told (for a comprehension's block) -/
def rLenK (K : PySem.W.Frag) : List V → Hp → VK → Prop := fun xs H Q =>
  ∃ p ys, xs = [.ref p] ∧ (SqL K H p ys ∨ SqT K H p ys) ∧ Q (.int ys.length) H
theorem len_K {X : Cx} {K : PySem.W.Frag} (h : X.K = K) : CallR X (.builtin "len") (rLenK K) := by
  subst h
  exact call_len_seq
theorem ixl_K {X : Cx} {K : PySem.W.Frag} (h : X.K = K) : IxR X (rIxL K) := by
  subst h
  exact ix_list
end Sw

set_option Elab.async false
set_option linter.all false
set_option maxRecDepth 100000
set_option maxHeartbeats 4000000
namespace Sw
open PySem PySem.Spec PyProof.Rows L2
def top (i : Nat) : Stmt := PySem.Challenge.pw_seatwave_s01_answers.main.body.getD i (.Pass ⟨0, 0, 0, 0⟩)
abbrev s_split_calls : Stmt := top 24
abbrev s_Refusal_init : Stmt := inClass (top 26) 0
abbrev s_NoSimulator_init : Stmt := inClass (top 27) 0
abbrev s_NoSection_init : Stmt := inClass (top 28) 0
abbrev s_NotSeated_init : Stmt := inClass (top 29) 0
abbrev s_OutOfRange_init : Stmt := inClass (top 30) 0
abbrev s_NeverHappens_init : Stmt := inClass (top 31) 0
abbrev s_next_section : Stmt := top 36
abbrev s_previous_section : Stmt := top 37
abbrev s_standing_in : Stmt := top 38
abbrev s_section_after_step : Stmt := top 39
abbrev s_after_step : Stmt := top 40
abbrev s_after_steps : Stmt := top 41
abbrev s_rotated : Stmt := top 42
abbrev s_mirrored : Stmt := top 43
abbrev s_rings_until_repeat : Stmt := top 46
abbrev s_steps_to_quiet : Stmt := top 47
abbrev s_steps_to_standing : Stmt := top 48
abbrev s_cycle_of : Stmt := top 49
abbrev s_most_standing : Stmt := top 50
abbrev s_phase_difference : Stmt := top 52
abbrev s_winding_of : Stmt := top 53
abbrev s_is_wave : Stmt := top 54
abbrev s_is_forward_wave : Stmt := top 55
abbrev s_is_backward_wave : Stmt := top 56
abbrev s_forward_waves_in : Stmt := top 57
abbrev s_backward_waves_in : Stmt := top 58
abbrev s_require_at_most : Stmt := top 64
abbrev s_Simulator_init : Stmt := inClass (top 65) 0
abbrev s_Simulator_require_section : Stmt := inClass (top 65) 1
abbrev s_Simulator_require_seated : Stmt := inClass (top 65) 2
abbrev s_Simulator_set_section : Stmt := inClass (top 65) 3
abbrev s_Simulator_set_all : Stmt := inClass (top 65) 4
abbrev s_Simulator_stand_up : Stmt := inClass (top 65) 5
abbrev s_Simulator_start_wave : Stmt := inClass (top 65) 6
abbrev s_Simulator_step : Stmt := inClass (top 65) 7
abbrev s_Simulator_advance : Stmt := inClass (top 65) 8
abbrev s_Simulator_rotate : Stmt := inClass (top 65) 9
abbrev s_Simulator_mirror : Stmt := inClass (top 65) 10
abbrev s_Simulator_sit_down : Stmt := inClass (top 65) 11
abbrev s_Simulator_get_ring : Stmt := inClass (top 65) 12
abbrev s_Simulator_get_section : Stmt := inClass (top 65) 13
abbrev s_Simulator_ring_after : Stmt := inClass (top 65) 14
abbrev s_Simulator_winding_number : Stmt := inClass (top 65) 15
abbrev s_Simulator_steps_until_quiet : Stmt := inClass (top 65) 16
abbrev s_Simulator_cycle : Stmt := inClass (top 65) 17
abbrev s_Simulator_forward_waves : Stmt := inClass (top 65) 18
abbrev s_Simulator_backward_waves : Stmt := inClass (top 65) 19
abbrev s_Simulator_standing_count : Stmt := inClass (top 65) 20
abbrev s_Simulator_max_standing : Stmt := inClass (top 65) 21
abbrev s_Simulator_first_standing : Stmt := inClass (top 65) 22
abbrev s_Simulator_quiet_if_stand_up : Stmt := inClass (top 65) 23
abbrev s_Simulator_get_state : Stmt := inClass (top 65) 24
abbrev s_answer_change : Stmt := top 69
abbrev s_answer_query : Stmt := top 70
abbrev s_Session_init : Stmt := inClass (top 71) 0
abbrev s_Session_answer : Stmt := inClass (top 71) 1
abbrev s_Session_execute : Stmt := inClass (top 71) 2
abbrev s_Session_create : Stmt := inClass (top 71) 3
abbrev s_answers : Stmt := top 73
theorem sc_split_calls : FnScope ["calls", "pairs", "position", "number", "length"] ["calls"] (defScope s_split_calls) := ⟨rfl, rfl, rfl, by decide +kernel, rfl, by decide +kernel, by decide +kernel⟩
theorem sc_Refusal_init : FnScope ["self", "code"] ["self", "code"] (defScope s_Refusal_init) := ⟨rfl, rfl, rfl, by decide +kernel, rfl, by decide +kernel, by decide +kernel⟩
theorem sc_NoSimulator_init : FnScope ["self"] ["self"] (defScope s_NoSimulator_init) := ⟨rfl, rfl, rfl, by decide +kernel, rfl, by decide +kernel, by decide +kernel⟩
theorem sc_NoSection_init : FnScope ["self"] ["self"] (defScope s_NoSection_init) := ⟨rfl, rfl, rfl, by decide +kernel, rfl, by decide +kernel, by decide +kernel⟩
theorem sc_NotSeated_init : FnScope ["self"] ["self"] (defScope s_NotSeated_init) := ⟨rfl, rfl, rfl, by decide +kernel, rfl, by decide +kernel, by decide +kernel⟩
theorem sc_OutOfRange_init : FnScope ["self"] ["self"] (defScope s_OutOfRange_init) := ⟨rfl, rfl, rfl, by decide +kernel, rfl, by decide +kernel, by decide +kernel⟩
theorem sc_NeverHappens_init : FnScope ["self"] ["self"] (defScope s_NeverHappens_init) := ⟨rfl, rfl, rfl, by decide +kernel, rfl, by decide +kernel, by decide +kernel⟩
theorem sc_next_section : FnScope ["states", "i"] ["states", "i"] (defScope s_next_section) := ⟨rfl, rfl, rfl, by decide +kernel, rfl, by decide +kernel, by decide +kernel⟩
theorem sc_previous_section : FnScope ["states", "i"] ["states", "i"] (defScope s_previous_section) := ⟨rfl, rfl, rfl, by decide +kernel, rfl, by decide +kernel, by decide +kernel⟩
theorem sc_standing_in : FnScope ["states"] ["states"] (defScope s_standing_in) := ⟨rfl, rfl, rfl, by decide +kernel, rfl, by decide +kernel, by decide +kernel⟩
theorem sc_section_after_step : FnScope ["states", "i"] ["states", "i"] (defScope s_section_after_step) := ⟨rfl, rfl, rfl, by decide +kernel, rfl, by decide +kernel, by decide +kernel⟩
theorem sc_after_step : FnScope ["states", "i"] ["states"] (defScope s_after_step) := ⟨rfl, rfl, rfl, by decide +kernel, rfl, by decide +kernel, by decide +kernel⟩
theorem sc_after_steps : FnScope ["states", "steps", "current", "done"] ["states", "steps"] (defScope s_after_steps) := ⟨rfl, rfl, rfl, by decide +kernel, rfl, by decide +kernel, by decide +kernel⟩
theorem sc_rotated : FnScope ["states", "distance", "i"] ["states", "distance"] (defScope s_rotated) := ⟨rfl, rfl, rfl, by decide +kernel, rfl, by decide +kernel, by decide +kernel⟩
theorem sc_mirrored : FnScope ["states", "i"] ["states"] (defScope s_mirrored) := ⟨rfl, rfl, rfl, by decide +kernel, rfl, by decide +kernel, by decide +kernel⟩
theorem sc_rings_until_repeat : FnScope ["states", "rings", "current"] ["states"] (defScope s_rings_until_repeat) := ⟨rfl, rfl, rfl, by decide +kernel, rfl, by decide +kernel, by decide +kernel⟩
theorem sc_steps_to_quiet : FnScope ["states", "quiet", "rings"] ["states"] (defScope s_steps_to_quiet) := ⟨rfl, rfl, rfl, by decide +kernel, rfl, by decide +kernel, by decide +kernel⟩
theorem sc_steps_to_standing : FnScope ["states", "i", "steps", "reached"] ["states", "i"] (defScope s_steps_to_standing) := ⟨rfl, rfl, rfl, by decide +kernel, rfl, by decide +kernel, by decide +kernel⟩
theorem sc_cycle_of : FnScope ["states", "rings", "start"] ["states"] (defScope s_cycle_of) := ⟨rfl, rfl, rfl, by decide +kernel, rfl, by decide +kernel, by decide +kernel⟩
theorem sc_most_standing : FnScope ["states", "current", "greatest", "done"] ["states"] (defScope s_most_standing) := ⟨rfl, rfl, rfl, by decide +kernel, rfl, by decide +kernel, by decide +kernel⟩
theorem sc_phase_difference : FnScope ["before", "after"] ["before", "after"] (defScope s_phase_difference) := ⟨rfl, rfl, rfl, by decide +kernel, rfl, by decide +kernel, by decide +kernel⟩
theorem sc_winding_of : FnScope ["states", "differences", "i"] ["states"] (defScope s_winding_of) := ⟨rfl, rfl, rfl, by decide +kernel, rfl, by decide +kernel, by decide +kernel⟩
theorem sc_is_wave : FnScope ["states", "i", "behind", "ahead"] ["states", "i", "behind", "ahead"] (defScope s_is_wave) := ⟨rfl, rfl, rfl, by decide +kernel, rfl, by decide +kernel, by decide +kernel⟩
theorem sc_is_forward_wave : FnScope ["states", "i"] ["states", "i"] (defScope s_is_forward_wave) := ⟨rfl, rfl, rfl, by decide +kernel, rfl, by decide +kernel, by decide +kernel⟩
theorem sc_is_backward_wave : FnScope ["states", "i"] ["states", "i"] (defScope s_is_backward_wave) := ⟨rfl, rfl, rfl, by decide +kernel, rfl, by decide +kernel, by decide +kernel⟩
theorem sc_forward_waves_in : FnScope ["states", "i"] ["states"] (defScope s_forward_waves_in) := ⟨rfl, rfl, rfl, by decide +kernel, rfl, by decide +kernel, by decide +kernel⟩
theorem sc_backward_waves_in : FnScope ["states", "i"] ["states"] (defScope s_backward_waves_in) := ⟨rfl, rfl, rfl, by decide +kernel, rfl, by decide +kernel, by decide +kernel⟩
theorem sc_require_at_most : FnScope ["value", "greatest"] ["value", "greatest"] (defScope s_require_at_most) := ⟨rfl, rfl, rfl, by decide +kernel, rfl, by decide +kernel, by decide +kernel⟩
theorem sc_Simulator_init : FnScope ["self", "sections"] ["self", "sections"] (defScope s_Simulator_init) := ⟨rfl, rfl, rfl, by decide +kernel, rfl, by decide +kernel, by decide +kernel⟩
theorem sc_Simulator_require_section : FnScope ["self", "i"] ["self", "i"] (defScope s_Simulator_require_section) := ⟨rfl, rfl, rfl, by decide +kernel, rfl, by decide +kernel, by decide +kernel⟩
theorem sc_Simulator_require_seated : FnScope ["self", "i"] ["self", "i"] (defScope s_Simulator_require_seated) := ⟨rfl, rfl, rfl, by decide +kernel, rfl, by decide +kernel, by decide +kernel⟩
theorem sc_Simulator_set_section : FnScope ["self", "i", "state", "before"] ["self", "i", "state"] (defScope s_Simulator_set_section) := ⟨rfl, rfl, rfl, by decide +kernel, rfl, by decide +kernel, by decide +kernel⟩
theorem sc_Simulator_set_all : FnScope ["self", "states", "state"] ["self", "states"] (defScope s_Simulator_set_all) := ⟨rfl, rfl, rfl, by decide +kernel, rfl, by decide +kernel, by decide +kernel⟩
theorem sc_Simulator_stand_up : FnScope ["self", "i"] ["self", "i"] (defScope s_Simulator_stand_up) := ⟨rfl, rfl, rfl, by decide +kernel, rfl, by decide +kernel, by decide +kernel⟩
theorem sc_Simulator_start_wave : FnScope ["self", "i", "direction", "before", "after", "behind"] ["self", "i", "direction"] (defScope s_Simulator_start_wave) := ⟨rfl, rfl, rfl, by decide +kernel, rfl, by decide +kernel, by decide +kernel⟩
theorem sc_Simulator_step : FnScope ["self"] ["self"] (defScope s_Simulator_step) := ⟨rfl, rfl, rfl, by decide +kernel, rfl, by decide +kernel, by decide +kernel⟩
theorem sc_Simulator_advance : FnScope ["self", "steps"] ["self", "steps"] (defScope s_Simulator_advance) := ⟨rfl, rfl, rfl, by decide +kernel, rfl, by decide +kernel, by decide +kernel⟩
theorem sc_Simulator_rotate : FnScope ["self", "distance"] ["self", "distance"] (defScope s_Simulator_rotate) := ⟨rfl, rfl, rfl, by decide +kernel, rfl, by decide +kernel, by decide +kernel⟩
theorem sc_Simulator_mirror : FnScope ["self"] ["self"] (defScope s_Simulator_mirror) := ⟨rfl, rfl, rfl, by decide +kernel, rfl, by decide +kernel, by decide +kernel⟩
theorem sc_Simulator_sit_down : FnScope ["self", "changed"] ["self"] (defScope s_Simulator_sit_down) := ⟨rfl, rfl, rfl, by decide +kernel, rfl, by decide +kernel, by decide +kernel⟩
theorem sc_Simulator_get_ring : FnScope ["self"] ["self"] (defScope s_Simulator_get_ring) := ⟨rfl, rfl, rfl, by decide +kernel, rfl, by decide +kernel, by decide +kernel⟩
theorem sc_Simulator_get_section : FnScope ["self", "i"] ["self", "i"] (defScope s_Simulator_get_section) := ⟨rfl, rfl, rfl, by decide +kernel, rfl, by decide +kernel, by decide +kernel⟩
theorem sc_Simulator_ring_after : FnScope ["self", "steps"] ["self", "steps"] (defScope s_Simulator_ring_after) := ⟨rfl, rfl, rfl, by decide +kernel, rfl, by decide +kernel, by decide +kernel⟩
theorem sc_Simulator_winding_number : FnScope ["self"] ["self"] (defScope s_Simulator_winding_number) := ⟨rfl, rfl, rfl, by decide +kernel, rfl, by decide +kernel, by decide +kernel⟩
theorem sc_Simulator_steps_until_quiet : FnScope ["self"] ["self"] (defScope s_Simulator_steps_until_quiet) := ⟨rfl, rfl, rfl, by decide +kernel, rfl, by decide +kernel, by decide +kernel⟩
theorem sc_Simulator_cycle : FnScope ["self"] ["self"] (defScope s_Simulator_cycle) := ⟨rfl, rfl, rfl, by decide +kernel, rfl, by decide +kernel, by decide +kernel⟩
theorem sc_Simulator_forward_waves : FnScope ["self", "sections"] ["self"] (defScope s_Simulator_forward_waves) := ⟨rfl, rfl, rfl, by decide +kernel, rfl, by decide +kernel, by decide +kernel⟩
theorem sc_Simulator_backward_waves : FnScope ["self", "sections"] ["self"] (defScope s_Simulator_backward_waves) := ⟨rfl, rfl, rfl, by decide +kernel, rfl, by decide +kernel, by decide +kernel⟩
theorem sc_Simulator_standing_count : FnScope ["self"] ["self"] (defScope s_Simulator_standing_count) := ⟨rfl, rfl, rfl, by decide +kernel, rfl, by decide +kernel, by decide +kernel⟩
theorem sc_Simulator_max_standing : FnScope ["self"] ["self"] (defScope s_Simulator_max_standing) := ⟨rfl, rfl, rfl, by decide +kernel, rfl, by decide +kernel, by decide +kernel⟩
theorem sc_Simulator_first_standing : FnScope ["self", "i"] ["self", "i"] (defScope s_Simulator_first_standing) := ⟨rfl, rfl, rfl, by decide +kernel, rfl, by decide +kernel, by decide +kernel⟩
theorem sc_Simulator_quiet_if_stand_up : FnScope ["self", "i", "risen"] ["self", "i"] (defScope s_Simulator_quiet_if_stand_up) := ⟨rfl, rfl, rfl, by decide +kernel, rfl, by decide +kernel, by decide +kernel⟩
theorem sc_Simulator_get_state : FnScope ["self"] ["self"] (defScope s_Simulator_get_state) := ⟨rfl, rfl, rfl, by decide +kernel, rfl, by decide +kernel, by decide +kernel⟩
theorem sc_answer_change : FnScope ["simulator", "number", "arguments"] ["simulator", "number", "arguments"] (defScope s_answer_change) := ⟨rfl, rfl, rfl, by decide +kernel, rfl, by decide +kernel, by decide +kernel⟩
theorem sc_answer_query : FnScope ["simulator", "number", "arguments"] ["simulator", "number", "arguments"] (defScope s_answer_query) := ⟨rfl, rfl, rfl, by decide +kernel, rfl, by decide +kernel, by decide +kernel⟩
theorem sc_Session_init : FnScope ["self"] ["self"] (defScope s_Session_init) := ⟨rfl, rfl, rfl, by decide +kernel, rfl, by decide +kernel, by decide +kernel⟩
theorem sc_Session_answer : FnScope ["self", "number", "arguments", "e"] ["self", "number", "arguments"] (defScope s_Session_answer) := ⟨rfl, rfl, rfl, by decide +kernel, rfl, by decide +kernel, by decide +kernel⟩
theorem sc_Session_execute : FnScope ["self", "number", "arguments"] ["self", "number", "arguments"] (defScope s_Session_execute) := ⟨rfl, rfl, rfl, by decide +kernel, rfl, by decide +kernel, by decide +kernel⟩
theorem sc_Session_create : FnScope ["self", "sections"] ["self", "sections"] (defScope s_Session_create) := ⟨rfl, rfl, rfl, by decide +kernel, rfl, by decide +kernel, by decide +kernel⟩
theorem sc_answers : FnScope ["calls", "session", "answered", "number", "arguments", "answer"] ["calls"] (defScope s_answers) := ⟨rfl, rfl, rfl, by decide +kernel, rfl, by decide +kernel, by decide +kernel⟩
/-- where things stand -/
structure Ad where
  f_split_calls : Addr
  f_Refusal_init : Addr
  f_NoSimulator_init : Addr
  f_NoSection_init : Addr
  f_NotSeated_init : Addr
  f_OutOfRange_init : Addr
  f_NeverHappens_init : Addr
  f_next_section : Addr
  f_previous_section : Addr
  f_standing_in : Addr
  f_section_after_step : Addr
  f_after_step : Addr
  f_after_steps : Addr
  f_rotated : Addr
  f_mirrored : Addr
  f_rings_until_repeat : Addr
  f_steps_to_quiet : Addr
  f_steps_to_standing : Addr
  f_cycle_of : Addr
  f_most_standing : Addr
  f_phase_difference : Addr
  f_winding_of : Addr
  f_is_wave : Addr
  f_is_forward_wave : Addr
  f_is_backward_wave : Addr
  f_forward_waves_in : Addr
  f_backward_waves_in : Addr
  f_require_at_most : Addr
  f_Simulator_init : Addr
  f_Simulator_require_section : Addr
  f_Simulator_require_seated : Addr
  f_Simulator_set_section : Addr
  f_Simulator_set_all : Addr
  f_Simulator_stand_up : Addr
  f_Simulator_start_wave : Addr
  f_Simulator_step : Addr
  f_Simulator_advance : Addr
  f_Simulator_rotate : Addr
  f_Simulator_mirror : Addr
  f_Simulator_sit_down : Addr
  f_Simulator_get_ring : Addr
  f_Simulator_get_section : Addr
  f_Simulator_ring_after : Addr
  f_Simulator_winding_number : Addr
  f_Simulator_steps_until_quiet : Addr
  f_Simulator_cycle : Addr
  f_Simulator_forward_waves : Addr
  f_Simulator_backward_waves : Addr
  f_Simulator_standing_count : Addr
  f_Simulator_max_standing : Addr
  f_Simulator_first_standing : Addr
  f_Simulator_quiet_if_stand_up : Addr
  f_Simulator_get_state : Addr
  f_answer_change : Addr
  f_answer_query : Addr
  f_Session_init : Addr
  f_Session_answer : Addr
  f_Session_execute : Addr
  f_Session_create : Addr
  f_answers : Addr
  c_Refusal : Addr
  c_NoSimulator : Addr
  c_NoSection : Addr
  c_NotSeated : Addr
  c_OutOfRange : Addr
  c_NeverHappens : Addr
  c_Simulator : Addr
  c_Session : Addr
  t_ARGUMENT_COUNTS : Addr
/-- a tuple of the written part -/
def TupK (K : PySem.W.Frag) (a : Addr) (xs : List V) : Prop := ∃ (o : Obj) (its : Array Value) (n : Nat), K.lookup a = some o ∧ o.cls = .type "tuple" ∧ o.data = .seq its n ∧ its.size ≤ sizeLine ∧ Vals xs its.toList
/-- what the top has written -/
structure Txt (K : PySem.W.Frag) (mg : Str → Option Value) (A : Ad) : Prop where
  n_len : mg "len" = none
  n_Exception : mg "Exception" = none
  n_range : mg "range" = none
  n_list : mg "list" = none
  n_enumerate : mg "enumerate" = none
  n_max : mg "max" = none
  n_sum : mg "sum" = none
  v_CREATE : ∃ t, mg "CREATE" = some (.int 0 t)
  v_SET_SECTION : ∃ t, mg "SET_SECTION" = some (.int 1 t)
  v_SET_ALL : ∃ t, mg "SET_ALL" = some (.int 2 t)
  v_STAND_UP : ∃ t, mg "STAND_UP" = some (.int 3 t)
  v_START_WAVE : ∃ t, mg "START_WAVE" = some (.int 4 t)
  v_STEP : ∃ t, mg "STEP" = some (.int 5 t)
  v_ADVANCE : ∃ t, mg "ADVANCE" = some (.int 6 t)
  v_ROTATE : ∃ t, mg "ROTATE" = some (.int 7 t)
  v_MIRROR : ∃ t, mg "MIRROR" = some (.int 8 t)
  v_SIT_DOWN : ∃ t, mg "SIT_DOWN" = some (.int 9 t)
  v_GET_RING : ∃ t, mg "GET_RING" = some (.int 10 t)
  v_GET_SECTION : ∃ t, mg "GET_SECTION" = some (.int 11 t)
  v_RING_AFTER : ∃ t, mg "RING_AFTER" = some (.int 12 t)
  v_WINDING_NUMBER : ∃ t, mg "WINDING_NUMBER" = some (.int 13 t)
  v_STEPS_UNTIL_QUIET : ∃ t, mg "STEPS_UNTIL_QUIET" = some (.int 14 t)
  v_CYCLE : ∃ t, mg "CYCLE" = some (.int 15 t)
  v_FORWARD_WAVES : ∃ t, mg "FORWARD_WAVES" = some (.int 16 t)
  v_BACKWARD_WAVES : ∃ t, mg "BACKWARD_WAVES" = some (.int 17 t)
  v_STANDING_COUNT : ∃ t, mg "STANDING_COUNT" = some (.int 18 t)
  v_MAX_STANDING : ∃ t, mg "MAX_STANDING" = some (.int 19 t)
  v_FIRST_STANDING : ∃ t, mg "FIRST_STANDING" = some (.int 20 t)
  v_QUIET_IF_STAND_UP : ∃ t, mg "QUIET_IF_STAND_UP" = some (.int 21 t)
  v_ARGUMENT_COUNTS : mg "ARGUMENT_COUNTS" = some (.ref A.t_ARGUMENT_COUNTS)
  u_ARGUMENT_COUNTS : TupK K A.t_ARGUMENT_COUNTS [.int 1, .int 2, .int 0, .int 1, .int 2, .int 0, .int 1, .int 1, .int 0, .int 0, .int 0, .int 1, .int 1, .int 0, .int 0, .int 0, .int 0, .int 0, .int 0, .int 0, .int 1, .int 1, .int 0]
  v_SEATED : ∃ t, mg "SEATED" = some (.int 0 t)
  v_STANDING : ∃ t, mg "STANDING" = some (.int 1 t)
  v_RESTING : ∃ t, mg "RESTING" = some (.int 2 t)
  v_MOST_STEPS_AHEAD : ∃ t, mg "MOST_STEPS_AHEAD" = some (.int 60 t)
  v_TOWARDS_NEXT : ∃ t, mg "TOWARDS_NEXT" = some (.int 0 t)
  v_TOWARDS_PREVIOUS : ∃ t, mg "TOWARDS_PREVIOUS" = some (.int 1 t)
  v_MOST_STEPS : ∃ t, mg "MOST_STEPS" = some (.int 40 t)
  v_GREATEST_DISTANCE : ∃ t, mg "GREATEST_DISTANCE" = some (.int 12 t)
  v_FEWEST_SECTIONS : ∃ t, mg "FEWEST_SECTIONS" = some (.int 3 t)
  v_MOST_SECTIONS : ∃ t, mg "MOST_SECTIONS" = some (.int 12 t)
  g_split_calls : mg "split_calls" = some (.ref A.f_split_calls)
  F_split_calls : ∃ fd, Fun K "split_calls" "split_calls" s_split_calls A.f_split_calls fd ∧ Binds K fd ["calls"] []
  F_Refusal_init : ∃ fd, Fun K "__init__" "Refusal.__init__" s_Refusal_init A.f_Refusal_init fd ∧ Binds K fd ["self", "code"] []
  F_NoSimulator_init : ∃ fd, Fun K "__init__" "NoSimulator.__init__" s_NoSimulator_init A.f_NoSimulator_init fd ∧ Binds K fd ["self"] []
  F_NoSection_init : ∃ fd, Fun K "__init__" "NoSection.__init__" s_NoSection_init A.f_NoSection_init fd ∧ Binds K fd ["self"] []
  F_NotSeated_init : ∃ fd, Fun K "__init__" "NotSeated.__init__" s_NotSeated_init A.f_NotSeated_init fd ∧ Binds K fd ["self"] []
  F_OutOfRange_init : ∃ fd, Fun K "__init__" "OutOfRange.__init__" s_OutOfRange_init A.f_OutOfRange_init fd ∧ Binds K fd ["self"] []
  F_NeverHappens_init : ∃ fd, Fun K "__init__" "NeverHappens.__init__" s_NeverHappens_init A.f_NeverHappens_init fd ∧ Binds K fd ["self"] []
  g_next_section : mg "next_section" = some (.ref A.f_next_section)
  F_next_section : ∃ fd, Fun K "next_section" "next_section" s_next_section A.f_next_section fd ∧ Binds K fd ["states", "i"] []
  g_previous_section : mg "previous_section" = some (.ref A.f_previous_section)
  F_previous_section : ∃ fd, Fun K "previous_section" "previous_section" s_previous_section A.f_previous_section fd ∧ Binds K fd ["states", "i"] []
  g_standing_in : mg "standing_in" = some (.ref A.f_standing_in)
  F_standing_in : ∃ fd, Fun K "standing_in" "standing_in" s_standing_in A.f_standing_in fd ∧ Binds K fd ["states"] []
  g_section_after_step : mg "section_after_step" = some (.ref A.f_section_after_step)
  F_section_after_step : ∃ fd, Fun K "section_after_step" "section_after_step" s_section_after_step A.f_section_after_step fd ∧ Binds K fd ["states", "i"] []
  g_after_step : mg "after_step" = some (.ref A.f_after_step)
  F_after_step : ∃ fd, Fun K "after_step" "after_step" s_after_step A.f_after_step fd ∧ Binds K fd ["states"] []
  g_after_steps : mg "after_steps" = some (.ref A.f_after_steps)
  F_after_steps : ∃ fd, Fun K "after_steps" "after_steps" s_after_steps A.f_after_steps fd ∧ Binds K fd ["states", "steps"] []
  g_rotated : mg "rotated" = some (.ref A.f_rotated)
  F_rotated : ∃ fd, Fun K "rotated" "rotated" s_rotated A.f_rotated fd ∧ Binds K fd ["states", "distance"] []
  g_mirrored : mg "mirrored" = some (.ref A.f_mirrored)
  F_mirrored : ∃ fd, Fun K "mirrored" "mirrored" s_mirrored A.f_mirrored fd ∧ Binds K fd ["states"] []
  g_rings_until_repeat : mg "rings_until_repeat" = some (.ref A.f_rings_until_repeat)
  F_rings_until_repeat : ∃ fd, Fun K "rings_until_repeat" "rings_until_repeat" s_rings_until_repeat A.f_rings_until_repeat fd ∧ Binds K fd ["states"] []
  g_steps_to_quiet : mg "steps_to_quiet" = some (.ref A.f_steps_to_quiet)
  F_steps_to_quiet : ∃ fd, Fun K "steps_to_quiet" "steps_to_quiet" s_steps_to_quiet A.f_steps_to_quiet fd ∧ Binds K fd ["states"] []
  g_steps_to_standing : mg "steps_to_standing" = some (.ref A.f_steps_to_standing)
  F_steps_to_standing : ∃ fd, Fun K "steps_to_standing" "steps_to_standing" s_steps_to_standing A.f_steps_to_standing fd ∧ Binds K fd ["states", "i"] []
  g_cycle_of : mg "cycle_of" = some (.ref A.f_cycle_of)
  F_cycle_of : ∃ fd, Fun K "cycle_of" "cycle_of" s_cycle_of A.f_cycle_of fd ∧ Binds K fd ["states"] []
  g_most_standing : mg "most_standing" = some (.ref A.f_most_standing)
  F_most_standing : ∃ fd, Fun K "most_standing" "most_standing" s_most_standing A.f_most_standing fd ∧ Binds K fd ["states"] []
  g_phase_difference : mg "phase_difference" = some (.ref A.f_phase_difference)
  F_phase_difference : ∃ fd, Fun K "phase_difference" "phase_difference" s_phase_difference A.f_phase_difference fd ∧ Binds K fd ["before", "after"] []
  g_winding_of : mg "winding_of" = some (.ref A.f_winding_of)
  F_winding_of : ∃ fd, Fun K "winding_of" "winding_of" s_winding_of A.f_winding_of fd ∧ Binds K fd ["states"] []
  g_is_wave : mg "is_wave" = some (.ref A.f_is_wave)
  F_is_wave : ∃ fd, Fun K "is_wave" "is_wave" s_is_wave A.f_is_wave fd ∧ Binds K fd ["states", "i", "behind", "ahead"] []
  g_is_forward_wave : mg "is_forward_wave" = some (.ref A.f_is_forward_wave)
  F_is_forward_wave : ∃ fd, Fun K "is_forward_wave" "is_forward_wave" s_is_forward_wave A.f_is_forward_wave fd ∧ Binds K fd ["states", "i"] []
  g_is_backward_wave : mg "is_backward_wave" = some (.ref A.f_is_backward_wave)
  F_is_backward_wave : ∃ fd, Fun K "is_backward_wave" "is_backward_wave" s_is_backward_wave A.f_is_backward_wave fd ∧ Binds K fd ["states", "i"] []
  g_forward_waves_in : mg "forward_waves_in" = some (.ref A.f_forward_waves_in)
  F_forward_waves_in : ∃ fd, Fun K "forward_waves_in" "forward_waves_in" s_forward_waves_in A.f_forward_waves_in fd ∧ Binds K fd ["states"] []
  g_backward_waves_in : mg "backward_waves_in" = some (.ref A.f_backward_waves_in)
  F_backward_waves_in : ∃ fd, Fun K "backward_waves_in" "backward_waves_in" s_backward_waves_in A.f_backward_waves_in fd ∧ Binds K fd ["states"] []
  g_require_at_most : mg "require_at_most" = some (.ref A.f_require_at_most)
  F_require_at_most : ∃ fd, Fun K "require_at_most" "require_at_most" s_require_at_most A.f_require_at_most fd ∧ Binds K fd ["value", "greatest"] []
  F_Simulator_init : ∃ fd, Fun K "__init__" "Simulator.__init__" s_Simulator_init A.f_Simulator_init fd ∧ Binds K fd ["self", "sections"] []
  F_Simulator_require_section : ∃ fd, Fun K "require_section" "Simulator.require_section" s_Simulator_require_section A.f_Simulator_require_section fd ∧ Binds K fd ["self", "i"] []
  F_Simulator_require_seated : ∃ fd, Fun K "require_seated" "Simulator.require_seated" s_Simulator_require_seated A.f_Simulator_require_seated fd ∧ Binds K fd ["self", "i"] []
  F_Simulator_set_section : ∃ fd, Fun K "set_section" "Simulator.set_section" s_Simulator_set_section A.f_Simulator_set_section fd ∧ Binds K fd ["self", "i", "state"] []
  F_Simulator_set_all : ∃ fd, Fun K "set_all" "Simulator.set_all" s_Simulator_set_all A.f_Simulator_set_all fd ∧ Binds K fd ["self", "states"] []
  F_Simulator_stand_up : ∃ fd, Fun K "stand_up" "Simulator.stand_up" s_Simulator_stand_up A.f_Simulator_stand_up fd ∧ Binds K fd ["self", "i"] []
  F_Simulator_start_wave : ∃ fd, Fun K "start_wave" "Simulator.start_wave" s_Simulator_start_wave A.f_Simulator_start_wave fd ∧ Binds K fd ["self", "i", "direction"] []
  F_Simulator_step : ∃ fd, Fun K "step" "Simulator.step" s_Simulator_step A.f_Simulator_step fd ∧ Binds K fd ["self"] []
  F_Simulator_advance : ∃ fd, Fun K "advance" "Simulator.advance" s_Simulator_advance A.f_Simulator_advance fd ∧ Binds K fd ["self", "steps"] []
  F_Simulator_rotate : ∃ fd, Fun K "rotate" "Simulator.rotate" s_Simulator_rotate A.f_Simulator_rotate fd ∧ Binds K fd ["self", "distance"] []
  F_Simulator_mirror : ∃ fd, Fun K "mirror" "Simulator.mirror" s_Simulator_mirror A.f_Simulator_mirror fd ∧ Binds K fd ["self"] []
  F_Simulator_sit_down : ∃ fd, Fun K "sit_down" "Simulator.sit_down" s_Simulator_sit_down A.f_Simulator_sit_down fd ∧ Binds K fd ["self"] []
  F_Simulator_get_ring : ∃ fd, Fun K "get_ring" "Simulator.get_ring" s_Simulator_get_ring A.f_Simulator_get_ring fd ∧ Binds K fd ["self"] []
  F_Simulator_get_section : ∃ fd, Fun K "get_section" "Simulator.get_section" s_Simulator_get_section A.f_Simulator_get_section fd ∧ Binds K fd ["self", "i"] []
  F_Simulator_ring_after : ∃ fd, Fun K "ring_after" "Simulator.ring_after" s_Simulator_ring_after A.f_Simulator_ring_after fd ∧ Binds K fd ["self", "steps"] []
  F_Simulator_winding_number : ∃ fd, Fun K "winding_number" "Simulator.winding_number" s_Simulator_winding_number A.f_Simulator_winding_number fd ∧ Binds K fd ["self"] []
  F_Simulator_steps_until_quiet : ∃ fd, Fun K "steps_until_quiet" "Simulator.steps_until_quiet" s_Simulator_steps_until_quiet A.f_Simulator_steps_until_quiet fd ∧ Binds K fd ["self"] []
  F_Simulator_cycle : ∃ fd, Fun K "cycle" "Simulator.cycle" s_Simulator_cycle A.f_Simulator_cycle fd ∧ Binds K fd ["self"] []
  F_Simulator_forward_waves : ∃ fd, Fun K "forward_waves" "Simulator.forward_waves" s_Simulator_forward_waves A.f_Simulator_forward_waves fd ∧ Binds K fd ["self"] []
  F_Simulator_backward_waves : ∃ fd, Fun K "backward_waves" "Simulator.backward_waves" s_Simulator_backward_waves A.f_Simulator_backward_waves fd ∧ Binds K fd ["self"] []
  F_Simulator_standing_count : ∃ fd, Fun K "standing_count" "Simulator.standing_count" s_Simulator_standing_count A.f_Simulator_standing_count fd ∧ Binds K fd ["self"] []
  F_Simulator_max_standing : ∃ fd, Fun K "max_standing" "Simulator.max_standing" s_Simulator_max_standing A.f_Simulator_max_standing fd ∧ Binds K fd ["self"] []
  F_Simulator_first_standing : ∃ fd, Fun K "first_standing" "Simulator.first_standing" s_Simulator_first_standing A.f_Simulator_first_standing fd ∧ Binds K fd ["self", "i"] []
  F_Simulator_quiet_if_stand_up : ∃ fd, Fun K "quiet_if_stand_up" "Simulator.quiet_if_stand_up" s_Simulator_quiet_if_stand_up A.f_Simulator_quiet_if_stand_up fd ∧ Binds K fd ["self", "i"] []
  F_Simulator_get_state : ∃ fd, Fun K "get_state" "Simulator.get_state" s_Simulator_get_state A.f_Simulator_get_state fd ∧ Binds K fd ["self"] []
  g_answer_change : mg "answer_change" = some (.ref A.f_answer_change)
  F_answer_change : ∃ fd, Fun K "answer_change" "answer_change" s_answer_change A.f_answer_change fd ∧ Binds K fd ["simulator", "number", "arguments"] []
  g_answer_query : mg "answer_query" = some (.ref A.f_answer_query)
  F_answer_query : ∃ fd, Fun K "answer_query" "answer_query" s_answer_query A.f_answer_query fd ∧ Binds K fd ["simulator", "number", "arguments"] []
  F_Session_init : ∃ fd, Fun K "__init__" "Session.__init__" s_Session_init A.f_Session_init fd ∧ Binds K fd ["self"] []
  F_Session_answer : ∃ fd, Fun K "answer" "Session.answer" s_Session_answer A.f_Session_answer fd ∧ Binds K fd ["self", "number", "arguments"] []
  F_Session_execute : ∃ fd, Fun K "execute" "Session.execute" s_Session_execute A.f_Session_execute fd ∧ Binds K fd ["self", "number", "arguments"] []
  F_Session_create : ∃ fd, Fun K "create" "Session.create" s_Session_create A.f_Session_create fd ∧ Binds K fd ["self", "sections"] []
  g_answers : mg "answers" = some (.ref A.f_answers)
  F_answers : ∃ fd, Fun K "answers" "answers" s_answers A.f_answers fd ∧ Binds K fd ["calls"] []
  g_Refusal : mg "Refusal" = some (.ref A.c_Refusal)
  e_Refusal : ErrC K A.c_Refusal
  i_Refusal : PySem.W.findIn K (.ref A.c_Refusal) "__init__" = some (some (.ref A.f_Refusal_init))
  t_Refusal : PySem.W.typeIn K (.ref A.f_Refusal_init) = some (.type "function")
  xf_Refusal : XfC K A.c_Refusal
  x_Refusal : PySem.W.exmOne K (.ref A.c_Refusal) (.ref A.c_Refusal) = some true
  g_NoSimulator : mg "NoSimulator" = some (.ref A.c_NoSimulator)
  e_NoSimulator : ErrC K A.c_NoSimulator
  i_NoSimulator : PySem.W.findIn K (.ref A.c_NoSimulator) "__init__" = some (some (.ref A.f_NoSimulator_init))
  t_NoSimulator : PySem.W.typeIn K (.ref A.f_NoSimulator_init) = some (.type "function")
  xf_NoSimulator : XfC K A.c_NoSimulator
  x_NoSimulator : PySem.W.exmOne K (.ref A.c_NoSimulator) (.ref A.c_Refusal) = some true
  g_NoSection : mg "NoSection" = some (.ref A.c_NoSection)
  e_NoSection : ErrC K A.c_NoSection
  i_NoSection : PySem.W.findIn K (.ref A.c_NoSection) "__init__" = some (some (.ref A.f_NoSection_init))
  t_NoSection : PySem.W.typeIn K (.ref A.f_NoSection_init) = some (.type "function")
  xf_NoSection : XfC K A.c_NoSection
  x_NoSection : PySem.W.exmOne K (.ref A.c_NoSection) (.ref A.c_Refusal) = some true
  g_NotSeated : mg "NotSeated" = some (.ref A.c_NotSeated)
  e_NotSeated : ErrC K A.c_NotSeated
  i_NotSeated : PySem.W.findIn K (.ref A.c_NotSeated) "__init__" = some (some (.ref A.f_NotSeated_init))
  t_NotSeated : PySem.W.typeIn K (.ref A.f_NotSeated_init) = some (.type "function")
  xf_NotSeated : XfC K A.c_NotSeated
  x_NotSeated : PySem.W.exmOne K (.ref A.c_NotSeated) (.ref A.c_Refusal) = some true
  g_OutOfRange : mg "OutOfRange" = some (.ref A.c_OutOfRange)
  e_OutOfRange : ErrC K A.c_OutOfRange
  i_OutOfRange : PySem.W.findIn K (.ref A.c_OutOfRange) "__init__" = some (some (.ref A.f_OutOfRange_init))
  t_OutOfRange : PySem.W.typeIn K (.ref A.f_OutOfRange_init) = some (.type "function")
  xf_OutOfRange : XfC K A.c_OutOfRange
  x_OutOfRange : PySem.W.exmOne K (.ref A.c_OutOfRange) (.ref A.c_Refusal) = some true
  g_NeverHappens : mg "NeverHappens" = some (.ref A.c_NeverHappens)
  e_NeverHappens : ErrC K A.c_NeverHappens
  i_NeverHappens : PySem.W.findIn K (.ref A.c_NeverHappens) "__init__" = some (some (.ref A.f_NeverHappens_init))
  t_NeverHappens : PySem.W.typeIn K (.ref A.f_NeverHappens_init) = some (.type "function")
  xf_NeverHappens : XfC K A.c_NeverHappens
  x_NeverHappens : PySem.W.exmOne K (.ref A.c_NeverHappens) (.ref A.c_Refusal) = some true
  g_Simulator : mg "Simulator" = some (.ref A.c_Simulator)
  cl_Simulator : Cls K A.c_Simulator
  k_Simulator : Mk K A.c_Simulator A.f_Simulator_init
  m_Simulator_require_section : Meth K A.c_Simulator "require_section" A.f_Simulator_require_section
  m_Simulator_require_seated : Meth K A.c_Simulator "require_seated" A.f_Simulator_require_seated
  m_Simulator_set_section : Meth K A.c_Simulator "set_section" A.f_Simulator_set_section
  m_Simulator_set_all : Meth K A.c_Simulator "set_all" A.f_Simulator_set_all
  m_Simulator_stand_up : Meth K A.c_Simulator "stand_up" A.f_Simulator_stand_up
  m_Simulator_start_wave : Meth K A.c_Simulator "start_wave" A.f_Simulator_start_wave
  m_Simulator_step : Meth K A.c_Simulator "step" A.f_Simulator_step
  m_Simulator_advance : Meth K A.c_Simulator "advance" A.f_Simulator_advance
  m_Simulator_rotate : Meth K A.c_Simulator "rotate" A.f_Simulator_rotate
  m_Simulator_mirror : Meth K A.c_Simulator "mirror" A.f_Simulator_mirror
  m_Simulator_sit_down : Meth K A.c_Simulator "sit_down" A.f_Simulator_sit_down
  m_Simulator_get_ring : Meth K A.c_Simulator "get_ring" A.f_Simulator_get_ring
  m_Simulator_get_section : Meth K A.c_Simulator "get_section" A.f_Simulator_get_section
  m_Simulator_ring_after : Meth K A.c_Simulator "ring_after" A.f_Simulator_ring_after
  m_Simulator_winding_number : Meth K A.c_Simulator "winding_number" A.f_Simulator_winding_number
  m_Simulator_steps_until_quiet : Meth K A.c_Simulator "steps_until_quiet" A.f_Simulator_steps_until_quiet
  m_Simulator_cycle : Meth K A.c_Simulator "cycle" A.f_Simulator_cycle
  m_Simulator_forward_waves : Meth K A.c_Simulator "forward_waves" A.f_Simulator_forward_waves
  m_Simulator_backward_waves : Meth K A.c_Simulator "backward_waves" A.f_Simulator_backward_waves
  m_Simulator_standing_count : Meth K A.c_Simulator "standing_count" A.f_Simulator_standing_count
  m_Simulator_max_standing : Meth K A.c_Simulator "max_standing" A.f_Simulator_max_standing
  m_Simulator_first_standing : Meth K A.c_Simulator "first_standing" A.f_Simulator_first_standing
  m_Simulator_quiet_if_stand_up : Meth K A.c_Simulator "quiet_if_stand_up" A.f_Simulator_quiet_if_stand_up
  m_Simulator_get_state : Meth K A.c_Simulator "get_state" A.f_Simulator_get_state
  na_Simulator_states : NoAttr K A.c_Simulator "states"
  na_Simulator_time : NoAttr K A.c_Simulator "time"
  g_Session : mg "Session" = some (.ref A.c_Session)
  cl_Session : Cls K A.c_Session
  k_Session : Mk K A.c_Session A.f_Session_init
  m_Session_answer : Meth K A.c_Session "answer" A.f_Session_answer
  m_Session_execute : Meth K A.c_Session "execute" A.f_Session_execute
  m_Session_create : Meth K A.c_Session "create" A.f_Session_create
  na_Session_simulator : NoAttr K A.c_Session "simulator"
  r_Refusal : ClX.CRead K A.c_Refusal (.type "type")
  o_Refusal : PySem.W.findCls K (.ref A.c_Refusal) (.type "type") "__init__" = some (.val (.ref A.f_Refusal_init))
  vE : PySem.W.findCls K (.type "Exception") (.type "type") "__init__" = some (.val (.builtin "Exception.__init__"))
end Sw

set_option Elab.async false
namespace Sw
open Kv439
def cell (r : Ring) (i : Nat) : Nat :=
  if stateAt r i = 1 then 2 else if stateAt r i = 2 then 0 else if stateAt r (i + 1) = 1 ∨ previousState r i = 1 then 1 else 0
theorem next_eq (r : Ring) : nextRing r = (List.range r.length).map (cell r) := rfl
theorem next_len (r : Ring) : (nextRing r).length = r.length := by
  rw [next_eq, List.length_map, List.length_range]
theorem after_len : ∀ (n : Nat) (r : Ring), (ringAfter r n).length = r.length
  | 0, _ => rfl
  | n + 1, r => (after_len n (nextRing r)).trans (next_len r)
theorem after_more : ∀ (n : Nat) (r : Ring), nextRing (ringAfter r n) = ringAfter r (n + 1)
  | 0, _ => rfl
  | n + 1, r => after_more n (nextRing r)
theorem state_lt {r : Ring} {i : Nat} (h : i < r.length) : stateAt r i = r.getD i 0 := by
  unfold stateAt
  rw [Nat.mod_eq_of_lt h]
theorem prev_idx {n i : Nat} (hi : i < n) : ((i : Int) - 1) % (n : Int) = (((i + n - 1) % n : Nat) : Int) := by
  cases i with
  | zero =>
    have e : (0 + n - 1) % n = n - 1 := by
      rw [Nat.zero_add]
      exact Nat.mod_eq_of_lt (show n - 1 < n by omega)
    rw [e]
    have z : (((0 : Nat) : Int) - 1) = ((n - 1 : Nat) : Int) + (n : Int) * (-1) := by omega
    rw [z, Int.add_mul_emod_self_left]
    have q : ((n - 1 : Nat) : Int) % (n : Int) = (((n - 1) % n : Nat) : Int) := (Int.natCast_emod _ _).symm
    rw [q, Nat.mod_eq_of_lt (by omega : n - 1 < n)]
  | succ j =>
    have e : (j + 1 + n - 1) % n = j % n := by
      rw [show j + 1 + n - 1 = j + n by omega, Nat.add_mod_right]
    rw [e]
    have z : (((j + 1 : Nat) : Int) - 1) = ((j : Nat) : Int) := by omega
    rw [z]
    exact (Int.natCast_emod _ _).symm
theorem next_idx {n i : Nat} : ((i : Int) + 1) % (n : Int) = (((i + 1) % n : Nat) : Int) :=
  (Int.natCast_emod _ _).symm
/-- the promise of every state: 3 to 12 sections, states 0, 1, 2 -/
structure Fine (r : Ring) : Prop where
  lo : 3 ≤ r.length
  hi : r.length ≤ 12
  st : ∀ x ∈ r, x ≤ 2
theorem cell_le (r : Ring) (i : Nat) : cell r i ≤ 2 := by
  unfold cell
  split
  · decide
  · split
    · decide
    · split <;> decide
theorem Fine.next {r : Ring} (f : Fine r) : Fine (nextRing r) :=
  ⟨by rw [next_len]; exact f.lo, by rw [next_len]; exact f.hi, fun x hx => by
    rw [next_eq] at hx
    obtain ⟨i, _, rfl⟩ := List.mem_map.mp hx
    exact cell_le r i⟩
theorem Fine.after : ∀ (n : Nat) {r : Ring}, Fine r → Fine (ringAfter r n)
  | 0, _, f => f
  | n + 1, _, f => Fine.after n f.next
theorem getD_mem {r : Ring} {i : Nat} (h : i < r.length) : r.getD i 0 ∈ r := by
  rw [List.getD_eq_getElem?_getD, List.getElem?_eq_getElem h]
  exact List.getElem_mem h
theorem Fine.state {r : Ring} (f : Fine r) (i : Nat) : stateAt r i ≤ 2 := by
  have h : i % r.length < r.length := Nat.mod_lt _ (Nat.lt_of_lt_of_le (by decide) f.lo)
  exact f.st _ (getD_mem h)
theorem Fine.set {r : Ring} (f : Fine r) (i : Nat) {x : Nat} (h : x ≤ 2) : Fine (r.set i x) :=
  ⟨by rw [List.length_set]; exact f.lo, by rw [List.length_set]; exact f.hi, fun y hy => by
    rcases List.mem_or_eq_of_mem_set hy with q | q
    · exact f.st y q
    · rw [q]; exact h⟩
theorem Fine.rep {n : Nat} (h1 : 3 ≤ n) (h2 : n ≤ 12) : Fine (List.replicate n 0) :=
  ⟨by simp [h1], by simp [h2], fun x hx => by
    rw [(List.mem_replicate.mp hx).2]
    decide⟩
theorem rot_len (r : Ring) (d : Nat) : (rotated r d).length = r.length := by
  unfold rotated
  rw [List.length_map, List.length_range]
theorem Fine.rot {r : Ring} (f : Fine r) (d : Nat) : Fine (rotated r d) :=
  ⟨by rw [rot_len]; exact f.lo, by rw [rot_len]; exact f.hi, fun x hx => by
    unfold rotated at hx
    obtain ⟨i, _, rfl⟩ := List.mem_map.mp hx
    exact f.state _⟩
theorem Fine.rev {r : Ring} (f : Fine r) : Fine r.reverse :=
  ⟨by rw [List.length_reverse]; exact f.lo, by rw [List.length_reverse]; exact f.hi, fun x hx => f.st x (List.mem_reverse.mp hx)⟩
theorem standing_count (r : Ring) : standing r = r.count 1 := by
  unfold standing
  rw [List.count, List.countP_eq_length_filter]
theorem map_range_getD (r : Ring) : (List.range r.length).map (fun i => r.getD i 0) = r := by
  apply List.ext_getElem?
  intro i
  by_cases h : i < r.length
  · rw [List.getElem?_map, List.getElem?_range h, List.getElem?_eq_getElem h, Option.map_some, List.getD_eq_getElem?_getD, List.getElem?_eq_getElem h]
    rfl
  · rw [List.getElem?_eq_none (by rw [List.length_map, List.length_range]; omega), List.getElem?_eq_none (by omega)]
theorem rev_map (r : Ring) : (List.range r.length).map (fun i => r.getD (r.length - 1 - i) 0) = r.reverse := by
  apply List.ext_getElem?
  intro i
  by_cases h : i < r.length
  · rw [List.getElem?_map, List.getElem?_range h, Option.map_some, List.getElem?_reverse h, List.getElem?_eq_getElem (by omega), List.getD_eq_getElem?_getD, List.getElem?_eq_getElem (by omega)]
    rfl
  · rw [List.getElem?_eq_none (by rw [List.length_map, List.length_range]; omega), List.getElem?_eq_none (by rw [List.length_reverse]; omega)]
end Sw

set_option Elab.async false
namespace Sw
open Kv439
section
variable {r : Ring} {t i x : Nat}
theorem run_set1 (h : r.length ≤ i) : Simulator.run ⟨r, t⟩ (.setSection i x) = (⟨r, t⟩, .error (-2)) := if_pos h
theorem run_set2 (h : ¬ r.length ≤ i) (h2 : 2 < x) : Simulator.run ⟨r, t⟩ (.setSection i x) = (⟨r, t⟩, .error (-22)) :=
  (if_neg h).trans (if_pos h2)
theorem run_set3 (h : ¬ r.length ≤ i) (h2 : ¬ 2 < x) : Simulator.run ⟨r, t⟩ (.setSection i x) = (⟨r.set i x, t⟩, .number (stateAt r i)) :=
  (if_neg h).trans (if_neg h2)
theorem run_all1 {l : List Nat} (h : l.length ≠ r.length ∨ l.any (fun s => decide (2 < s)) = true) :
    Simulator.run ⟨r, t⟩ (.setAll l) = (⟨r, t⟩, .error (-22)) := if_pos h
theorem run_all2 {l : List Nat} (h : ¬ (l.length ≠ r.length ∨ l.any (fun s => decide (2 < s)) = true)) :
    Simulator.run ⟨r, t⟩ (.setAll l) = (⟨l, t⟩, .number 0) := if_neg h
theorem run_up1 (h : r.length ≤ i) : Simulator.run ⟨r, t⟩ (.standUp i) = (⟨r, t⟩, .error (-2)) := if_pos h
theorem run_up2 (h : ¬ r.length ≤ i) (h2 : stateAt r i ≠ 0) : Simulator.run ⟨r, t⟩ (.standUp i) = (⟨r, t⟩, .error (-17)) :=
  (if_neg h).trans (if_pos h2)
theorem run_up3 (h : ¬ r.length ≤ i) (h2 : ¬ stateAt r i ≠ 0) :
    Simulator.run ⟨r, t⟩ (.standUp i) = (⟨r.set i 1, t⟩, .number (standing (r.set i 1))) := (if_neg h).trans (if_neg h2)
theorem run_wave1 (h : r.length ≤ i) : Simulator.run ⟨r, t⟩ (.startWave i x) = (⟨r, t⟩, .error (-2)) := if_pos h
theorem run_wave2 (h : ¬ r.length ≤ i) (h2 : 1 < x) : Simulator.run ⟨r, t⟩ (.startWave i x) = (⟨r, t⟩, .error (-22)) :=
  (if_neg h).trans (if_pos h2)
theorem run_wave3 (h : ¬ r.length ≤ i) (h2 : ¬ 1 < x) (h3 : stateAt r i ≠ 0 ∨ previousState r i ≠ 0 ∨ stateAt r (i + 1) ≠ 0) :
    Simulator.run ⟨r, t⟩ (.startWave i x) = (⟨r, t⟩, .error (-17)) := (if_neg h).trans ((if_neg h2).trans (if_pos h3))
def behindOf (n i x : Nat) : Nat := if x = 0 then (i + n - 1) % n else (i + 1) % n
theorem run_wave4 (h : ¬ r.length ≤ i) (h2 : ¬ 1 < x) (h3 : ¬ (stateAt r i ≠ 0 ∨ previousState r i ≠ 0 ∨ stateAt r (i + 1) ≠ 0)) :
    Simulator.run ⟨r, t⟩ (.startWave i x) = (⟨(r.set i 1).set (behindOf r.length i x) 2, t⟩, .number (standing ((r.set i 1).set (behindOf r.length i x) 2))) :=
  (if_neg h).trans ((if_neg h2).trans (if_neg h3))
theorem run_adv1 (h : 40 < i) : Simulator.run ⟨r, t⟩ (.advance i) = (⟨r, t⟩, .error (-22)) := if_pos h
theorem run_adv2 (h : ¬ 40 < i) : Simulator.run ⟨r, t⟩ (.advance i) = (⟨ringAfter r i, t + i⟩, .number (standing (ringAfter r i))) := if_neg h
theorem run_rot1 (h : 12 < i) : Simulator.run ⟨r, t⟩ (.rotate i) = (⟨r, t⟩, .error (-22)) := if_pos h
theorem run_rot2 (h : ¬ 12 < i) : Simulator.run ⟨r, t⟩ (.rotate i) = (⟨rotated r i, t⟩, .number r.length) := if_neg h
theorem run_get1 (h : r.length ≤ i) : Simulator.run ⟨r, t⟩ (.getSection i) = (⟨r, t⟩, .error (-2)) := if_pos h
theorem run_get2 (h : ¬ r.length ≤ i) : Simulator.run ⟨r, t⟩ (.getSection i) = (⟨r, t⟩, .number (stateAt r i)) := if_neg h
theorem notzero_count (r : Ring) : (r.filter fun s => s != 0).length + r.count 0 = r.length := by
  induction r with
  | nil => rfl
  | cons x r ih =>
    rw [List.count_cons, List.filter_cons, List.length_cons]
    by_cases h : x = 0
    · rw [h]; simp; omega
    · have b : (x != 0) = true := by simp [h]
      have c : (x == 0) = false := by simp [h]
      rw [b, c]
      simp
      omega
end
end Sw

set_option Elab.async false
namespace Sw
open PyKv439 (shape)
/-- a call's number; what stands behind it -/
def pn (c : List (List Int)) : Int := (c.headD []).headD 0
def pa (c : List (List Int)) : List Int := (c.headD []).tail ++ (c.drop 1).flatten
def counts : List Nat := [1, 2, 0, 1, 2, 0, 1, 1, 0, 0, 0, 1, 1, 0, 0, 0, 0, 0, 0, 0, 1, 1, 0]
theorem shape_nat : ∀ k : Nat, k < 23 → shape (k : Int) = some (counts.getD k 0, if k = 2 then 1 else 0) := by decide
theorem shape_range {p : Int} {x : Nat × Nat} (h : shape p = some x) : 0 ≤ p ∧ p < 23 := by
  by_cases c : 0 ≤ p ∧ p < 23
  · exact c
  · unfold shape at h
    iterate 23 rw [if_neg (by omega)] at h
    cases h
/-- one call read off -/
inductive Turn (p : Int) (r : List Int) (c : List (List Int)) (t : List Int) : Prop
  | plain (k : Nat) (e : p = (k : Int)) (lt : k < 23) (n2 : k ≠ 2) (le : counts.getD k 0 ≤ r.length)
      (ec : c = [p :: r.take (counts.getD k 0)]) (et : t = r.drop (counts.getD k 0))
  | row (e : p = 2) (m : Nat) (r' : List Int) (er : r = (m : Int) :: r') (le : m ≤ r'.length)
      (ec : c = [[2], r'.take m]) (et : t = r'.drop m)
theorem turn_of {f : Nat} {p : Int} {r : List Int} {rest : List (List (List Int))} (h : PyFlat.calls shape f (p :: r) = some rest) :
    ∃ c t cs g, rest = c :: cs ∧ PyFlat.calls shape g t = some cs ∧ Turn p r c t := by
  cases f with
  | zero => cases h
  | succ f =>
    unfold PyFlat.calls at h
    cases e : PyFlat.call shape (p :: r) with
    | none =>
      rw [e] at h
      cases h
    | some ct =>
      obtain ⟨c, t⟩ := ct
      rw [e] at h
      dsimp only at h
      cases e2 : PyFlat.calls shape f t with
      | none =>
        rw [e2] at h
        cases h
      | some cs =>
        rw [e2] at h
        dsimp only at h
        refine ⟨c, t, cs, f, (Option.some.inj h).symm, e2, ?_⟩
        unfold PyFlat.call at e
        dsimp only at e
        cases e3 : shape p with
        | none =>
          rw [e3] at e
          cases e
        | some nk =>
          obtain ⟨h0, h1⟩ := shape_range e3
          obtain ⟨k, rfl⟩ : ∃ k : Nat, p = (k : Int) := ⟨p.toNat, by omega⟩
          have lt : k < 23 := by omega
          have e4 := (shape_nat k lt).symm.trans e3
          obtain rfl := Option.some.inj e4
          rw [e3] at e
          dsimp only at e
          by_cases hl : r.length < counts.getD k 0
          · rw [if_pos hl] at e
            cases e
          · rw [if_neg hl] at e
            by_cases k2 : k = 2
            · subst k2
              rw [if_pos rfl] at e
              have z : counts.getD 2 0 = 0 := rfl
              rw [z] at e
              cases r with
              | nil => cases e
              | cons m r' =>
                simp only [List.drop_zero, List.take_zero, PyFlat.rows, PyFlat.row] at e
                by_cases hm : 0 ≤ m ∧ m.toNat ≤ r'.length
                · rw [if_pos hm] at e
                  dsimp only at e
                  obtain ⟨ec, et⟩ := Prod.mk.inj (Option.some.inj e)
                  refine .row rfl m.toNat r' ?_ hm.2 ec.symm et.symm
                  rw [Int.toNat_of_nonneg hm.1]
                · rw [if_neg hm] at e
                  cases e
            · rw [if_neg k2] at e
              simp only [PyFlat.rows] at e
              obtain ⟨ec, et⟩ := Prod.mk.inj (Option.some.inj e)
              exact .plain k rfl lt k2 (by omega) ec.symm et.symm
theorem calls_nil {f : Nat} {rest : List (List (List Int))} (h : PyFlat.calls shape f [] = some rest) : rest = [] := by
  cases f <;> exact (Option.some.inj h).symm
theorem whole_id (c : List (List Int)) : PyKv439.whole c = c := by
  unfold PyKv439.whole
  split <;> rfl
theorem map_whole (cs : List (List (List Int))) : cs.map PyKv439.whole = cs := by
  induction cs with
  | nil => rfl
  | cons c cs ih => rw [List.map_cons, whole_id, ih]
/-- what is asked of a list, in parts -/
structure AskedOf (l : List Int) (raw : List (List (List Int))) : Prop where
  parse : PyFlat.calls shape l.length l = some raw
  some_ : raw ≠ []
  few : raw.length ≤ 256
  each : ∀ c ∈ raw, Kv439Neutral.asked1 c = true
  inside : ∀ c ∈ raw, PyInside.call PyKv439.bound c = true
  short : (PyFlat.told (PyFlat.played Kv439Neutral.step Kv439Neutral.start raw)).length ≤ 10000000
theorem asked_of {l : List Int} (h : PyKv439.answers_asked l = true) : ∃ raw, AskedOf l raw := by
  unfold PyKv439.answers_asked at h
  cases e : PyFlat.calls shape l.length l with
  | none =>
    rw [e] at h
    cases h
  | some raw =>
    rw [e] at h
    simp only [Bool.and_eq_true] at h
    obtain ⟨⟨⟨⟨h1, h2⟩, h3⟩, h4⟩, h5⟩ := h
    rw [map_whole] at h4
    unfold Kv439Neutral.asked at h4
    rw [Bool.and_eq_true] at h4
    refine ⟨raw, e, ?_, of_decide_eq_true h2, fun c hc => List.all_eq_true.mp h4.2 c hc, fun c hc => List.all_eq_true.mp h3 c hc, ?_⟩
    rotate_left
    · have z := of_decide_eq_true h5
      unfold PyKv439.answers PyKv439.calls at z
      rw [e] at z
      dsimp only at z
      rw [map_whole] at z
      exact z
    intro z
    rw [z] at h1
    cases h1
theorem answers_of {l : List Int} {raw : List (List (List Int))} (a : AskedOf l raw) :
    PyKv439.answers l = PyFlat.told (PyFlat.played Kv439Neutral.step Kv439Neutral.start raw) := by
  unfold PyKv439.answers PyKv439.calls
  rw [a.parse]
  dsimp only
  rw [map_whole]
/-- played and told from the left -/
def playedS : Kv439.State → List (List (List Int)) → Kv439.State
  | s, [] => s
  | s, c :: r => playedS (Kv439Neutral.step s c).1 r
def toldS : Kv439.State → List (List (List Int)) → List Int
  | _, [] => []
  | s, c :: r => ((Kv439Neutral.step s c).2.length : Int) :: (Kv439Neutral.step s c).2 ++ toldS (Kv439Neutral.step s c).1 r
theorem told_eq (raw : List (List (List Int))) : ∀ s, PyFlat.told (PyFlat.played Kv439Neutral.step s raw) = toldS s raw := by
  induction raw with
  | nil => intro s; rfl
  | cons c r ih =>
    intro s
    have := ih (Kv439Neutral.step s c).1
    unfold PyFlat.told at this
    unfold PyFlat.played PyFlat.told toldS
    rw [List.flatMap_cons, this]
theorem played_more : ∀ (l : List (List (List Int))) (s : Kv439.State) (c : List (List Int)), playedS s (l ++ [c]) = (Kv439Neutral.step (playedS s l) c).1
  | [], _, _ => rfl
  | d :: l, s, c => played_more l (Kv439Neutral.step s d).1 c
theorem told_more : ∀ (l : List (List (List Int))) (s : Kv439.State) (c : List (List Int)),
    toldS s (l ++ [c]) = toldS s l ++ (((Kv439Neutral.step (playedS s l) c).2.length : Int) :: (Kv439Neutral.step (playedS s l) c).2)
  | [], s, c => by
    show ((Kv439Neutral.step s c).2.length : Int) :: (Kv439Neutral.step s c).2 ++ [] = _
    rw [List.append_nil]
    rfl
  | d :: l, s, c => by
    show ((Kv439Neutral.step s d).2.length : Int) :: (Kv439Neutral.step s d).2 ++ toldS (Kv439Neutral.step s d).1 (l ++ [c]) = _
    rw [told_more l]
    show _ = (((Kv439Neutral.step s d).2.length : Int) :: (Kv439Neutral.step s d).2 ++ toldS (Kv439Neutral.step s d).1 l) ++ _
    rw [List.append_assoc]
    rfl
theorem told_append : ∀ (l l' : List (List (List Int))) (s : Kv439.State), toldS s (l ++ l') = toldS s l ++ toldS (playedS s l) l'
  | [], _, _ => rfl
  | d :: l, l', s => by
    show ((Kv439Neutral.step s d).2.length : Int) :: (Kv439Neutral.step s d).2 ++ toldS (Kv439Neutral.step s d).1 (l ++ l') = _
    rw [told_append l l']
    show _ = (((Kv439Neutral.step s d).2.length : Int) :: (Kv439Neutral.step s d).2 ++ toldS (Kv439Neutral.step s d).1 l) ++ _
    rw [List.append_assoc]
    rfl
theorem take_more {α : Type} : ∀ {l : List α} {i : Nat} {x : α}, l[i]? = some x → l.take (i + 1) = l.take i ++ [x]
  | [], i, x, h => by simp at h
  | a :: l, 0, x, h => by
    have e : a = x := Option.some.inj h
    subst e
    rfl
  | a :: l, i + 1, x, h => by
    have ih := take_more (l := l) (i := i) (x := x) h
    show a :: l.take (i + 1) = a :: l.take i ++ [x]
    rw [ih]
    rfl
end Sw

set_option Elab.async false
namespace Sw
open Kv439 Kv439Neutral
/-- the forms of a call that may be handed in -/
inductive Form : List (List Int) → Prop
  | create (x : Nat) : Form [[0, (x : Int)]]
  | setSection (x y : Nat) : Form [[1, (x : Int), (y : Int)]]
  | setAll (l : List Nat) : Form [[2], l.map fun (n : Nat) => (n : Int)]
  | standUp (x : Nat) : Form [[3, (x : Int)]]
  | startWave (x y : Nat) : Form [[4, (x : Int), (y : Int)]]
  | step : Form [[5]]
  | advance (x : Nat) : Form [[6, (x : Int)]]
  | rotate (x : Nat) : Form [[7, (x : Int)]]
  | mirror : Form [[8]]
  | sitDown : Form [[9]]
  | getRing : Form [[10]]
  | getSection (x : Nat) : Form [[11, (x : Int)]]
  | ringAfter (x : Nat) : Form [[12, (x : Int)]]
  | windingNumber : Form [[13]]
  | stepsUntilQuiet : Form [[14]]
  | cycle : Form [[15]]
  | forwardWaves : Form [[16]]
  | backwardWaves : Form [[17]]
  | standingCount : Form [[18]]
  | maxStanding : Form [[19]]
  | firstStanding (x : Nat) : Form [[20, (x : Int)]]
  | quietIfStandUp (x : Nat) : Form [[21, (x : Int)]]
  | getState : Form [[22]]
theorem nat_of {z : Int} {b : Nat} (h : isNatural z b = true) : ∃ n : Nat, z = (n : Int) := by
  unfold isNatural at h
  rw [Bool.and_eq_true] at h
  exact ⟨z.toNat, (Int.toNat_of_nonneg (of_decide_eq_true h.1)).symm⟩
theorem nats_of {b : Nat} : ∀ {l : List Int}, l.all (fun z => isNatural z b) = true → ∃ m : List Nat, l = m.map fun (n : Nat) => (n : Int)
  | [], _ => ⟨[], rfl⟩
  | z :: l, h => by
    rw [List.all_cons, Bool.and_eq_true] at h
    obtain ⟨n, rfl⟩ := nat_of h.1
    obtain ⟨m, rfl⟩ := nats_of h.2
    exact ⟨n :: m, rfl⟩
theorem form_of {c : List (List Int)} (h : asked1 c = true) : Form c := by
  unfold asked1 at h
  split at h
  all_goals (try simp only [Bool.and_eq_true] at h)
  · obtain ⟨x, rfl⟩ := nat_of h; exact .create x
  · obtain ⟨x, rfl⟩ := nat_of h.1; obtain ⟨y, rfl⟩ := nat_of h.2; exact .setSection x y
  · obtain ⟨l, rfl⟩ := nats_of h; exact .setAll l
  · obtain ⟨x, rfl⟩ := nat_of h; exact .standUp x
  · obtain ⟨x, rfl⟩ := nat_of h.1; obtain ⟨y, rfl⟩ := nat_of h.2; exact .startWave x y
  · exact .step
  · obtain ⟨x, rfl⟩ := nat_of h; exact .advance x
  · obtain ⟨x, rfl⟩ := nat_of h; exact .rotate x
  · exact .mirror
  · exact .sitDown
  · exact .getRing
  · obtain ⟨x, rfl⟩ := nat_of h; exact .getSection x
  · obtain ⟨x, rfl⟩ := nat_of h; exact .ringAfter x
  · exact .windingNumber
  · exact .stepsUntilQuiet
  · exact .cycle
  · exact .forwardWaves
  · exact .backwardWaves
  · exact .standingCount
  · exact .maxStanding
  · obtain ⟨x, rfl⟩ := nat_of h; exact .firstStanding x
  · obtain ⟨x, rfl⟩ := nat_of h; exact .quietIfStandUp x
  · exact .getState
  · cases h
theorem naturals_map (l : List Nat) : naturals (l.map fun (n : Nat) => (n : Int)) = l := by
  unfold naturals
  rw [List.map_map]
  induction l with
  | nil => rfl
  | cons x l ih => rw [List.map_cons, ih]; rfl
theorem op_setAll (l : List Nat) : operationOf [[2], l.map fun (n : Nat) => (n : Int)] = some (.setAll l) := by
  show some (Operation.setAll (naturals (l.map fun (n : Nat) => (n : Int)))) = _
  rw [naturals_map]
/-- the operation of a form -/
def opOf (c : List (List Int)) : Operation := (operationOf c).getD .step
theorem op_of {c : List (List Int)} (f : Form c) : operationOf c = some (opOf c) := by
  cases f <;> rfl
/-- an operation on a simulator keeps its ring in form -/
theorem run_fine {m : Simulator} (f : Fine m.ring) (o : Operation) : Fine (m.run o).1.ring := by
  obtain ⟨r, t⟩ := m
  cases o with
  | create n =>
    by_cases h : n < 3 ∨ 12 < n
    · have e : Simulator.run ⟨r, t⟩ (.create n) = (⟨r, t⟩, .error (-22)) := if_pos h
      rw [e]; exact f
    · have e : Simulator.run ⟨r, t⟩ (.create n) = (newSimulator n, .number 0) := if_neg h
      rw [e]; exact Fine.rep (by omega) (by omega)
  | setSection i x =>
    by_cases h : r.length ≤ i
    · rw [run_set1 h]; exact f
    · by_cases h2 : 2 < x
      · rw [run_set2 h h2]; exact f
      · rw [run_set3 h h2]; exact f.set i (by omega)
  | setAll l =>
    by_cases h : l.length ≠ r.length ∨ l.any (fun s => decide (2 < s)) = true
    · rw [run_all1 h]; exact f
    · rw [run_all2 h]
      have e : l.length = r.length := by
        by_cases z : l.length = r.length
        · exact z
        · exact absurd (.inl z) h
      refine ⟨by show 3 ≤ l.length; rw [e]; exact f.lo, by show l.length ≤ 12; rw [e]; exact f.hi, fun x hx => ?_⟩
      by_cases z : 2 < x
      · exact absurd (.inr (List.any_eq_true.mpr ⟨x, hx, decide_eq_true z⟩)) h
      · omega
  | standUp i =>
    by_cases h : r.length ≤ i
    · rw [run_up1 h]; exact f
    · by_cases h2 : stateAt r i ≠ 0
      · rw [run_up2 h h2]; exact f
      · rw [run_up3 h h2]; exact f.set i (by decide)
  | startWave i x =>
    by_cases h : r.length ≤ i
    · rw [run_wave1 h]; exact f
    · by_cases h2 : 1 < x
      · rw [run_wave2 h h2]; exact f
      · by_cases h3 : stateAt r i ≠ 0 ∨ previousState r i ≠ 0 ∨ stateAt r (i + 1) ≠ 0
        · rw [run_wave3 h h2 h3]; exact f
        · rw [run_wave4 h h2 h3]; exact (f.set i (by decide)).set _ (by decide)
  | step => exact f.next
  | advance n =>
    by_cases h : 40 < n
    · rw [run_adv1 h]; exact f
    · rw [run_adv2 h]; exact Fine.after n f
  | rotate d =>
    by_cases h : 12 < d
    · rw [run_rot1 h]; exact f
    · rw [run_rot2 h]; exact f.rot d
  | mirror => exact f.rev
  | sitDown => exact Fine.rep f.lo f.hi
  | getRing => exact f
  | getSection i =>
    by_cases h : r.length ≤ i
    · rw [run_get1 h]; exact f
    · rw [run_get2 h]; exact f
  | ringAfter n =>
    by_cases h : 40 < n
    · have e : Simulator.run ⟨r, t⟩ (.ringAfter n) = (⟨r, t⟩, .error (-22)) := if_pos h
      rw [e]; exact f
    · have e : Simulator.run ⟨r, t⟩ (.ringAfter n) = (⟨r, t⟩, .list (Kv439.ringAfter r n)) := if_neg h
      rw [e]; exact f
  | windingNumber => exact f
  | stepsUntilQuiet => exact f
  | cycle => exact f
  | forwardWaves => exact f
  | backwardWaves => exact f
  | standingCount => exact f
  | maxStanding => exact f
  | firstStanding i =>
    by_cases h : r.length ≤ i
    · have e : (Simulator.run ⟨r, t⟩ (.firstStanding i)).1 = ⟨r, t⟩ := by
        show (ite (r.length ≤ i) _ _ : Simulator × Response).1 = _
        rw [if_pos h]
      rw [e]; exact f
    · have e : (Simulator.run ⟨r, t⟩ (.firstStanding i)).1 = ⟨r, t⟩ := by
        show (ite (r.length ≤ i) _ _ : Simulator × Response).1 = _
        rw [if_neg h]
      rw [e]; exact f
  | quietIfStandUp i =>
    by_cases h : r.length ≤ i
    · have e : (Simulator.run ⟨r, t⟩ (.quietIfStandUp i)).1 = ⟨r, t⟩ := by
        show (ite (r.length ≤ i) _ _ : Simulator × Response).1 = _
        rw [if_pos h]
      rw [e]; exact f
    · have e : (Simulator.run ⟨r, t⟩ (.quietIfStandUp i)).1 = ⟨r, t⟩ := by
        show (ite (r.length ≤ i) _ _ : Simulator × Response).1 = _
        rw [if_neg h]
        by_cases h2 : stateAt r i ≠ 0
        · rw [if_pos h2]
        · rw [if_neg h2]
      rw [e]; exact f
  | getState => exact f
end Sw

set_option Elab.async false
namespace Sw
open Kv439
section
variable {m : Simulator} {x y : Nat}
theorem vals_set : (m.run (.setSection x y)).2.values = [] := by
  show (ite _ _ _ : Simulator × Response).2.values = []
  split
  · rfl
  · split <;> rfl
theorem vals_all {l : List Nat} : (m.run (.setAll l)).2.values = [] := by
  show (ite _ _ _ : Simulator × Response).2.values = []
  split <;> rfl
theorem vals_up : (m.run (.standUp x)).2.values = [] := by
  show (ite _ _ _ : Simulator × Response).2.values = []
  split
  · rfl
  · split <;> rfl
theorem vals_wave : (m.run (.startWave x y)).2.values = [] := by
  show (ite _ _ _ : Simulator × Response).2.values = []
  split
  · rfl
  · split
    · rfl
    · split <;> rfl
theorem vals_adv : (m.run (.advance x)).2.values = [] := by
  show (ite _ _ _ : Simulator × Response).2.values = []
  split <;> rfl
theorem vals_rot : (m.run (.rotate x)).2.values = [] := by
  show (ite _ _ _ : Simulator × Response).2.values = []
  split <;> rfl
theorem vals_get : (m.run (.getSection x)).2.values = [] := by
  show (ite _ _ _ : Simulator × Response).2.values = []
  split <;> rfl
theorem row_one {r : Response} (h : r.values = []) : Kv439Neutral.resultRow r = [r.code] := by
  unfold Kv439Neutral.resultRow
  rw [h]
end
end Sw

set_option Elab.async false
namespace Sw
open Kv439
theorem nneg {n : Nat} (h : (Response.number n).code < 0) : False := absurd h (Int.not_lt.mpr (Int.natCast_nonneg _))
theorem nnegl {l : List Nat} (h : (Response.list l).code < 0) : False := absurd h (Int.not_lt.mpr (Int.natCast_nonneg _))
/-- a refused call changes nothing and answers its code alone -/
theorem refused {m : Simulator} {o : Operation} (h : (m.run o).2.code < 0) : m.run o = (m, .error (m.run o).2.code) := by
  obtain ⟨r, t⟩ := m
  have opt : ∀ x : Option Nat, (Response.optional x).code < 0 → Response.optional x = Response.error (Response.optional x).code := fun x z => by
    cases x with
    | none => rfl
    | some n => exact (nneg z).elim
  cases o with
  | create n =>
    by_cases c : n < 3 ∨ 12 < n
    · have e : Simulator.run ⟨r, t⟩ (.create n) = (⟨r, t⟩, .error (-22)) := if_pos c
      rw [e]; rfl
    · have e : Simulator.run ⟨r, t⟩ (.create n) = (newSimulator n, .number 0) := if_neg c
      rw [e] at h; exact (nneg h).elim
  | setSection i x =>
    by_cases c : r.length ≤ i
    · rw [run_set1 c]; rfl
    · by_cases c2 : 2 < x
      · rw [run_set2 c c2]; rfl
      · rw [run_set3 c c2] at h; exact (nneg h).elim
  | setAll l =>
    by_cases c : l.length ≠ r.length ∨ l.any (fun s => decide (2 < s)) = true
    · rw [run_all1 c]; rfl
    · rw [run_all2 c] at h; exact (nneg h).elim
  | standUp i =>
    by_cases c : r.length ≤ i
    · rw [run_up1 c]; rfl
    · by_cases c2 : stateAt r i ≠ 0
      · rw [run_up2 c c2]; rfl
      · rw [run_up3 c c2] at h; exact (nneg h).elim
  | startWave i x =>
    by_cases c : r.length ≤ i
    · rw [run_wave1 c]; rfl
    · by_cases c2 : 1 < x
      · rw [run_wave2 c c2]; rfl
      · by_cases c3 : stateAt r i ≠ 0 ∨ previousState r i ≠ 0 ∨ stateAt r (i + 1) ≠ 0
        · rw [run_wave3 c c2 c3]; rfl
        · rw [run_wave4 c c2 c3] at h; exact (nneg h).elim
  | step => exact (nneg h).elim
  | advance n =>
    by_cases c : 40 < n
    · rw [run_adv1 c]; rfl
    · rw [run_adv2 c] at h; exact (nneg h).elim
  | rotate d =>
    by_cases c : 12 < d
    · rw [run_rot1 c]; rfl
    · rw [run_rot2 c] at h; exact (nneg h).elim
  | mirror => exact (nneg h).elim
  | sitDown => exact (nneg h).elim
  | getRing => exact (nnegl h).elim
  | getSection i =>
    by_cases c : r.length ≤ i
    · rw [run_get1 c]; rfl
    · rw [run_get2 c] at h; exact (nneg h).elim
  | ringAfter n =>
    by_cases c : 40 < n
    · have e : Simulator.run ⟨r, t⟩ (.ringAfter n) = (⟨r, t⟩, .error (-22)) := if_pos c
      rw [e]; rfl
    · have e : Simulator.run ⟨r, t⟩ (.ringAfter n) = (⟨r, t⟩, .list (Kv439.ringAfter r n)) := if_neg c
      rw [e] at h; exact (nnegl h).elim
  | windingNumber => exact absurd h (by show ¬ ((0 : Int) < 0); decide)
  | stepsUntilQuiet => exact congrArg (Prod.mk _) (opt _ h)
  | cycle => exact absurd h (Int.not_lt.mpr (Int.natCast_nonneg _))
  | forwardWaves => exact (nnegl h).elim
  | backwardWaves => exact (nnegl h).elim
  | standingCount => exact (nneg h).elim
  | maxStanding => exact (nneg h).elim
  | firstStanding i =>
    by_cases c : r.length ≤ i
    · have e : Simulator.run ⟨r, t⟩ (.firstStanding i) = (⟨r, t⟩, .error (-2)) := if_pos c
      rw [e]; rfl
    · have e : Simulator.run ⟨r, t⟩ (.firstStanding i) = (⟨r, t⟩, .optional ((trajectory r maxSteps).findIdx? fun ring => stateAt ring i == 1)) := if_neg c
      rw [e] at h ⊢; exact congrArg (Prod.mk _) (opt _ h)
  | quietIfStandUp i =>
    by_cases c : r.length ≤ i
    · have e : Simulator.run ⟨r, t⟩ (.quietIfStandUp i) = (⟨r, t⟩, .error (-2)) := if_pos c
      rw [e]; rfl
    · by_cases c2 : stateAt r i ≠ 0
      · have e : Simulator.run ⟨r, t⟩ (.quietIfStandUp i) = (⟨r, t⟩, .error (-17)) := (if_neg c).trans (if_pos c2)
        rw [e]; rfl
      · have e : Simulator.run ⟨r, t⟩ (.quietIfStandUp i) = (⟨r, t⟩, .optional (stepsUntilQuiet (r.set i 1))) := (if_neg c).trans (if_neg c2)
        rw [e] at h ⊢; exact congrArg (Prod.mk _) (opt _ h)
  | getState => exact absurd h (Int.not_lt.mpr (Int.natCast_nonneg _))
end Sw

set_option Elab.async false
set_option maxRecDepth 100000
namespace Sw
open Kv439
/-! All rings of one size at once: for each section one number, whose k-th bit tells of the k-th ring. -/
def stepB (n : Nat) (p : List Nat × List Nat) : List Nat × List Nat :=
  ((List.range n).map fun i =>
    (p.1.getD ((i + n - 1) % n) 0 ||| p.1.getD ((i + 1) % n) 0) ^^^
      ((p.1.getD ((i + n - 1) % n) 0 ||| p.1.getD ((i + 1) % n) 0) &&& (p.1.getD i 0 ||| p.2.getD i 0)), p.1)
def runB (n : Nat) : Nat → List Nat × List Nat → List Nat × List Nat
  | 0, p => p
  | t + 1, p => runB n t (stepB n p)
def dupB (b x : Nat) : Nat := x ||| (x <<< b ||| x <<< (2 * b))
def patB : Nat → List Nat × List Nat
  | 0 => ([], [])
  | n + 1 => (((2 ^ 3 ^ n - 1) <<< 3 ^ n) :: (patB n).1.map (dupB (3 ^ n)), ((2 ^ 3 ^ n - 1) <<< (2 * 3 ^ n)) :: (patB n).2.map (dupB (3 ^ n)))
def eqL : List Nat → List Nat → Bool
  | [], [] => true
  | a :: l, b :: m => Nat.beq a b && eqL l m
  | _, _ => false
theorem eqL_eq : ∀ {l m : List Nat}, eqL l m = true → l = m
  | [], [], _ => rfl
  | a :: l, b :: m, h => by
    unfold eqL at h
    rw [Bool.and_eq_true] at h
    rw [Nat.eq_of_beq_eq_true h.1, eqL_eq h.2]
  | [], _ :: _, h => by cases h
  | _ :: _, [], h => by cases h
def againB (n : Nat) : Bool := eqL (runB n n (runB n 12 (patB n))).1 (runB n 12 (patB n)).1 && eqL (runB n n (runB n 12 (patB n))).2 (runB n 12 (patB n)).2
set_option maxHeartbeats 0 in
theorem again3 : againB 3 = true := by decide +kernel
set_option maxHeartbeats 0 in
theorem again8 : againB 8 = true := by decide +kernel

set_option maxHeartbeats 0 in
theorem again4 : againB 4 = true := by decide +kernel
set_option maxHeartbeats 0 in
theorem again5 : againB 5 = true := by decide +kernel
set_option maxHeartbeats 0 in
theorem again6 : againB 6 = true := by decide +kernel
set_option maxHeartbeats 0 in
theorem again7 : againB 7 = true := by decide +kernel
set_option maxHeartbeats 0 in
theorem again9 : againB 9 = true := by decide +kernel
set_option maxHeartbeats 0 in
theorem again10 : againB 10 = true := by decide +kernel
set_option maxHeartbeats 0 in
theorem again11 : againB 11 = true := by decide +kernel
set_option maxHeartbeats 0 in
theorem again12 : againB 12 = true := by decide +kernel
/-- the k-th bits are the ring's -/
structure Holds (r : Ring) (k : Nat) (p : List Nat × List Nat) : Prop where
  s : ∀ i, i < r.length → (p.1.getD i 0).testBit k = (r.getD i 0 == 1)
  q : ∀ i, i < r.length → (p.2.getD i 0).testBit k = (r.getD i 0 == 2)
theorem getD_map {α β : Type} {f : α → β} {l : List α} {i : Nat} {a : α} {b : β} (h : i < l.length) : (l.map f).getD i b = f (l.getD i a) := by
  rw [List.getD_eq_getElem?_getD, List.getD_eq_getElem?_getD, List.getElem?_map, List.getElem?_eq_getElem h]
  rfl
theorem range_getD {n i : Nat} (h : i < n) : (List.range n).getD i 0 = i := by
  rw [List.getD_eq_getElem?_getD, List.getElem?_range h]
  rfl
theorem Holds.step {r : Ring} {k : Nat} {p : List Nat × List Nat} (h : Holds r k p) : Holds (nextRing r) k (stepB r.length p) := by
  have len := next_len r
  have cellAt : ∀ i, i < r.length → (nextRing r).getD i 0 = cell r i := fun i hi => by
    rw [next_eq, getD_map (a := 0) (by rw [List.length_range]; exact hi), range_getD hi]
  refine ⟨fun i hi => ?_, fun i hi => ?_⟩
  · rw [len] at hi
    have h0 : 0 < r.length := by omega
    have lp : (i + r.length - 1) % r.length < r.length := Nat.mod_lt _ h0
    have ln : (i + 1) % r.length < r.length := Nat.mod_lt _ h0
    rw [cellAt i hi]
    unfold stepB
    dsimp only
    rw [getD_map (a := 0) (by rw [List.length_range]; exact hi), range_getD hi, Nat.testBit_xor, Nat.testBit_and, Nat.testBit_or, Nat.testBit_or, h.s _ lp, h.s _ ln, h.s _ hi, h.q _ hi]
    have e1 : r.getD ((i + r.length - 1) % r.length) 0 = previousState r i := rfl
    have e2 : r.getD ((i + 1) % r.length) 0 = stateAt r (i + 1) := rfl
    have e3 := state_lt hi
    rw [e1, e2, ← e3]
    unfold cell
    by_cases c1 : stateAt r i = 1
    · rw [if_pos c1]; simp [c1]
    · rw [if_neg c1]
      by_cases c2 : stateAt r i = 2
      · rw [if_pos c2]; simp [c2]
      · rw [if_neg c2]
        have b1 : (stateAt r i == 1) = false := by simp [c1]
        have b2 : (stateAt r i == 2) = false := by simp [c2]
        rw [b1, b2]
        by_cases c3 : stateAt r (i + 1) = 1 ∨ previousState r i = 1
        · rw [if_pos c3]
          rcases c3 with c3 | c3 <;> simp [c3]
        · rw [if_neg c3]
          have c4 : ¬ stateAt r (i + 1) = 1 := fun z => c3 (.inl z)
          have c5 : ¬ previousState r i = 1 := fun z => c3 (.inr z)
          simp [c4, c5]
  · rw [len] at hi
    rw [cellAt i hi]
    show (p.1.getD i 0).testBit k = _
    rw [h.s _ hi, ← state_lt hi]
    unfold cell
    by_cases c1 : stateAt r i = 1
    · rw [if_pos c1]; simp [c1]
    · rw [if_neg c1]
      by_cases c2 : stateAt r i = 2
      · rw [if_pos c2]; simp [c2]
      · rw [if_neg c2]
        have b1 : (stateAt r i == 1) = false := by simp [c1]
        rw [b1]
        split <;> rfl
theorem Holds.run {k : Nat} : ∀ (t : Nat) {r : Ring} {p : List Nat × List Nat}, Holds r k p → Holds (ringAfter r t) k (runB r.length t p)
  | 0, _, _, h => h
  | t + 1, r, p, h => by
    have := Holds.run t h.step
    rw [next_len] at this
    exact this
theorem ones_bit (b k : Nat) : (2 ^ b - 1).testBit k = decide (k < b) := Nat.testBit_two_pow_sub_one ..
theorem dup_bit {b x k j : Nat} (hx : x < 2 ^ b) (hk : k < b) (hj : j < 3) : (dupB b x).testBit (k + j * b) = x.testBit k := by
  have out : ∀ m, b ≤ m → x.testBit m = false := fun m hm => Nat.testBit_lt_two_pow (Nat.lt_of_lt_of_le hx (Nat.pow_le_pow_right (by decide) hm))
  unfold dupB
  rw [Nat.testBit_or, Nat.testBit_or, Nat.testBit_shiftLeft, Nat.testBit_shiftLeft]
  have : j = 0 ∨ j = 1 ∨ j = 2 := by omega
  rcases this with rfl | rfl | rfl
  · have n1 : ¬ (k + 0 * b ≥ b) := by omega
    have n2 : ¬ (k + 0 * b ≥ 2 * b) := by omega
    rw [decide_eq_false n1, decide_eq_false n2, Nat.zero_mul, Nat.add_zero]
    simp
  · have n2 : ¬ (k + 1 * b ≥ 2 * b) := by omega
    rw [out (k + 1 * b) (by omega), decide_eq_false n2, decide_eq_true (show k + 1 * b ≥ b by omega), show k + 1 * b - b = k by omega]
    simp
  · rw [out (k + 2 * b) (by omega), out (k + 2 * b - b) (by omega), decide_eq_true (show k + 2 * b ≥ 2 * b by omega), show k + 2 * b - 2 * b = k by omega]
    simp
theorem dup_lt {b x : Nat} (hx : x < 2 ^ b) : dupB b x < 2 ^ (3 * b) := by
  unfold dupB
  refine Nat.or_lt_two_pow ?_ (Nat.or_lt_two_pow ?_ ?_)
  · exact Nat.lt_of_lt_of_le hx (Nat.pow_le_pow_right (by decide) (by omega))
  · rw [Nat.shiftLeft_eq]
    calc x * 2 ^ b < 2 ^ b * 2 ^ b := Nat.mul_lt_mul_of_pos_right hx (Nat.two_pow_pos b)
      _ = 2 ^ (b + b) := (Nat.pow_add ..).symm
      _ ≤ 2 ^ (3 * b) := Nat.pow_le_pow_right (by decide) (by omega)
  · rw [Nat.shiftLeft_eq]
    calc x * 2 ^ (2 * b) < 2 ^ b * 2 ^ (2 * b) := Nat.mul_lt_mul_of_pos_right hx (Nat.two_pow_pos _)
      _ = 2 ^ (b + 2 * b) := (Nat.pow_add ..).symm
      _ ≤ 2 ^ (3 * b) := Nat.pow_le_pow_right (by decide) (by omega)
theorem ones_lt {b j : Nat} (hj : j ≤ 2) : (2 ^ b - 1) <<< (j * b) < 2 ^ (3 * b) := by
  rw [Nat.shiftLeft_eq]
  have h1 : 2 ^ b - 1 < 2 ^ b := Nat.sub_lt (Nat.two_pow_pos b) (by decide)
  calc (2 ^ b - 1) * 2 ^ (j * b) < 2 ^ b * 2 ^ (j * b) := Nat.mul_lt_mul_of_pos_right h1 (Nat.two_pow_pos _)
    _ = 2 ^ (b + j * b) := (Nat.pow_add ..).symm
    _ ≤ 2 ^ (3 * b) := Nat.pow_le_pow_right (by decide) (by
      have := Nat.mul_le_mul_right b hj
      omega)
theorem three_pow (n : Nat) : 3 ^ (n + 1) = 3 * 3 ^ n := by rw [Nat.pow_succ, Nat.mul_comm]
theorem pat_lt : ∀ n, (∀ x ∈ (patB n).1, x < 2 ^ 3 ^ n) ∧ (∀ x ∈ (patB n).2, x < 2 ^ 3 ^ n) ∧ (patB n).1.length = n ∧ (patB n).2.length = n
  | 0 => ⟨fun x h => absurd (show x ∈ ([] : List Nat) from h) (by simp), fun x h => absurd (show x ∈ ([] : List Nat) from h) (by simp), rfl, rfl⟩
  | n + 1 => by
    obtain ⟨h1, h2, h3, h4⟩ := pat_lt n
    refine ⟨fun x h => ?_, fun x h => ?_, ?_, ?_⟩
    · rw [three_pow]
      rcases List.mem_cons.mp h with e | e
      · rw [e]
        have := ones_lt (b := 3 ^ n) (j := 1) (by decide)
        rw [Nat.one_mul] at this
        exact this
      · obtain ⟨y, hy, rfl⟩ := List.mem_map.mp e
        exact dup_lt (h1 y hy)
    · rw [three_pow]
      rcases List.mem_cons.mp h with e | e
      · rw [e]
        exact ones_lt (b := 3 ^ n) (j := 2) (by decide)
      · obtain ⟨y, hy, rfl⟩ := List.mem_map.mp e
        exact dup_lt (h2 y hy)
    · show ((patB n).1.map _).length + 1 = n + 1
      rw [List.length_map, h3]
    · show ((patB n).2.map _).length + 1 = n + 1
      rw [List.length_map, h4]
theorem pat_has : ∀ (r : Ring), (∀ x ∈ r, x ≤ 2) → ∃ k, k < 3 ^ r.length ∧ Holds r k (patB r.length)
  | [], _ => ⟨0, by decide, ⟨fun i h => absurd h (Nat.not_lt_zero _), fun i h => absurd h (Nat.not_lt_zero _)⟩⟩
  | x :: r, hx => by
    obtain ⟨k, hk, h⟩ := pat_has r fun y hy => hx y (List.mem_cons_of_mem _ hy)
    have hx2 : x ≤ 2 := hx x (List.mem_cons_self ..)
    obtain ⟨p1, p2, p3, p4⟩ := pat_lt r.length
    refine ⟨k + x * 3 ^ r.length, ?_, ⟨fun i hi => ?_, fun i hi => ?_⟩⟩
    · show k + x * 3 ^ r.length < 3 ^ (r.length + 1)
      rw [three_pow]
      have := Nat.mul_le_mul_right (3 ^ r.length) hx2
      omega
    · cases i with
      | zero =>
        show ((2 ^ 3 ^ r.length - 1) <<< 3 ^ r.length).testBit (k + x * 3 ^ r.length) = (x == 1)
        rw [Nat.testBit_shiftLeft, ones_bit]
        have : x = 0 ∨ x = 1 ∨ x = 2 := by omega
        rcases this with rfl | rfl | rfl
        · rw [decide_eq_false (show ¬ (k + 0 * 3 ^ r.length ≥ 3 ^ r.length) by omega)]
          rfl
        · rw [decide_eq_true (show k + 1 * 3 ^ r.length ≥ 3 ^ r.length by omega), decide_eq_true (show k + 1 * 3 ^ r.length - 3 ^ r.length < 3 ^ r.length by omega)]
          rfl
        · rw [decide_eq_false (show ¬ (k + 2 * 3 ^ r.length - 3 ^ r.length < 3 ^ r.length) by omega)]
          simp
      | succ j =>
        have hj : j < r.length := Nat.lt_of_succ_lt_succ hi
        show (((patB r.length).1.map (dupB (3 ^ r.length))).getD j 0).testBit (k + x * 3 ^ r.length) = (r.getD j 0 == 1)
        have hj' : j < (patB r.length).1.length := by rw [p3]; exact hj
        rw [getD_map (a := 0) hj', dup_bit (p1 _ (getD_mem hj')) hk (by omega)]
        exact h.s j hj
    · cases i with
      | zero =>
        show ((2 ^ 3 ^ r.length - 1) <<< (2 * 3 ^ r.length)).testBit (k + x * 3 ^ r.length) = (x == 2)
        rw [Nat.testBit_shiftLeft, ones_bit]
        have : x = 0 ∨ x = 1 ∨ x = 2 := by omega
        rcases this with rfl | rfl | rfl
        · rw [decide_eq_false (show ¬ (k + 0 * 3 ^ r.length ≥ 2 * 3 ^ r.length) by omega)]
          rfl
        · rw [decide_eq_false (show ¬ (k + 1 * 3 ^ r.length ≥ 2 * 3 ^ r.length) by omega)]
          rfl
        · rw [decide_eq_true (show k + 2 * 3 ^ r.length ≥ 2 * 3 ^ r.length by omega), decide_eq_true (show k + 2 * 3 ^ r.length - 2 * 3 ^ r.length < 3 ^ r.length by omega)]
          rfl
      | succ j =>
        have hj : j < r.length := Nat.lt_of_succ_lt_succ hi
        show (((patB r.length).2.map (dupB (3 ^ r.length))).getD j 0).testBit (k + x * 3 ^ r.length) = (r.getD j 0 == 2)
        have hj' : j < (patB r.length).2.length := by rw [p4]; exact hj
        rw [getD_map (a := 0) hj', dup_bit (p2 _ (getD_mem hj')) hk (by omega)]
        exact h.q j hj
theorem again_all {n : Nat} (h1 : 3 ≤ n) (h2 : n ≤ 12) : againB n = true := by
  have : n = 3 ∨ n = 4 ∨ n = 5 ∨ n = 6 ∨ n = 7 ∨ n = 8 ∨ n = 9 ∨ n = 10 ∨ n = 11 ∨ n = 12 := by omega
  rcases this with rfl | rfl | rfl | rfl | rfl | rfl | rfl | rfl | rfl | rfl
  · exact again3
  · exact again4
  · exact again5
  · exact again6
  · exact again7
  · exact again8
  · exact again9
  · exact again10
  · exact again11
  · exact again12
theorem Holds.same {r r' : Ring} {k : Nat} {p : List Nat × List Nat} (h : Holds r k p) (h' : Holds r' k p) (hl : r.length = r'.length)
    (f : ∀ x ∈ r, x ≤ 2) (f' : ∀ x ∈ r', x ≤ 2) : r = r' := by
  apply List.ext_getElem hl
  intro i h1 h2
  have a := (h.s i h1).symm.trans (h'.s i h2)
  have b := (h.q i h1).symm.trans (h'.q i h2)
  have e1 : r.getD i 0 = r[i] := by rw [List.getD_eq_getElem?_getD, List.getElem?_eq_getElem h1]; rfl
  have e2 : r'.getD i 0 = r'[i] := by rw [List.getD_eq_getElem?_getD, List.getElem?_eq_getElem h2]; rfl
  rw [e1, e2] at a b
  have x1 := f _ (List.getElem_mem h1)
  have x2 := f' _ (List.getElem_mem h2)
  generalize r[i] = x at *
  generalize r'[i] = y at *
  have cx : x = 0 ∨ x = 1 ∨ x = 2 := by omega
  have cy : y = 0 ∨ y = 1 ∨ y = 2 := by omega
  rcases cx with rfl | rfl | rfl <;> rcases cy with rfl | rfl | rfl <;> first | rfl | (simp at a b)
theorem after_add : ∀ (a b : Nat) (r : Ring), ringAfter r (a + b) = ringAfter (ringAfter r a) b
  | 0, b, r => by rw [Nat.zero_add]; rfl
  | a + 1, b, r => by
    rw [show a + 1 + b = (a + b) + 1 by omega]
    exact after_add a b (nextRing r)
/-- from step 12 on a ring repeats with its own size as a period -/
theorem repeat12 {r : Ring} (f : Fine r) : ringAfter r (12 + r.length) = ringAfter r 12 := by
  obtain ⟨k, hk, h⟩ := pat_has r f.st
  have g1 := h.run 12
  have g2 := g1.run r.length
  rw [after_len] at g2
  have e := again_all f.lo f.hi
  unfold againB at e
  rw [Bool.and_eq_true] at e
  have e1 := eqL_eq e.1
  have e2 := eqL_eq e.2
  have e3 : runB r.length r.length (runB r.length 12 (patB r.length)) = runB r.length 12 (patB r.length) := Prod.ext e1 e2
  rw [e3] at g2
  rw [after_add]
  exact g2.same g1 (by simp only [after_len]) (Fine.after _ (Fine.after _ f)).st (Fine.after _ f).st
end Sw

set_option Elab.async false
set_option maxRecDepth 100000
namespace Sw
open Kv439
/-! ### the rings that the specification looks at -/
theorem traj_len : ∀ (n : Nat) (r : Ring), (trajectory r n).length = n + 1
  | 0, _ => rfl
  | n + 1, r => congrArg (· + 1) (traj_len n (nextRing r))
theorem traj_get : ∀ (n i : Nat) (r : Ring), i ≤ n → (trajectory r n)[i]? = some (ringAfter r i)
  | 0, i, r, h => by
    obtain rfl : i = 0 := by omega
    rfl
  | n + 1, 0, r, _ => rfl
  | n + 1, i + 1, r, h => traj_get n i (nextRing r) (by omega)
theorem traj_map (n : Nat) (r : Ring) : trajectory r n = (List.range (n + 1)).map (ringAfter r) := by
  apply List.ext_getElem?
  intro i
  by_cases h : i ≤ n
  · rw [traj_get n i r h, List.getElem?_map, List.getElem?_range (by omega)]
    rfl
  · rw [List.getElem?_eq_none (by rw [traj_len]; omega), List.getElem?_eq_none (by rw [List.length_map, List.length_range]; omega)]
theorem idx_some {α : Type} {p : α → Bool} {l : List α} {k : Nat} {x : α} (hk : l[k]? = some x) (hp : p x = true) (hm : ∀ j y, j < k → l[j]? = some y → p y = false) :
    l.findIdx? p = some k := by
  rw [List.findIdx?_eq_some_iff_getElem]
  obtain ⟨h, e⟩ := List.getElem?_eq_some_iff.mp hk
  refine ⟨h, by rw [e]; exact hp, fun j hj => ?_⟩
  have hj' : j < l.length := by omega
  have := hm j l[j] hj (List.getElem?_eq_getElem hj')
  rw [this]
  decide
theorem idx_none {α : Type} {p : α → Bool} {l : List α} (h : ∀ (j : Nat) (y : α), l[j]? = some y → p y = false) : l.findIdx? p = none := by
  rw [List.findIdx?_eq_none_iff]
  intro x hx
  obtain ⟨j, hj⟩ := List.getElem?_of_mem hx
  exact h j x hj
theorem first_some {p : Ring → Bool} {r : Ring} {k n : Nat} (hk : k ≤ n) (hp : p (ringAfter r k) = true) (hm : ∀ j, j < k → p (ringAfter r j) = false) :
    (trajectory r n).findIdx? p = some k := by
  refine idx_some (traj_get n k r hk) hp fun j y hj e => ?_
  rw [traj_get n j r (by omega)] at e
  rw [← Option.some.inj e]
  exact hm j hj
theorem first_none {p : Ring → Bool} {r : Ring} {n : Nat} (hm : ∀ j, j ≤ n → p (ringAfter r j) = false) : (trajectory r n).findIdx? p = none := by
  refine idx_none fun j y e => ?_
  have hj : j < (trajectory r n).length := (List.getElem?_eq_some_iff.mp e).1
  rw [traj_len] at hj
  rw [traj_get n j r (by omega)] at e
  rw [← Option.some.inj e]
  exact hm j (by omega)
/-- what holds of no ring up to step 24 holds of none -/
theorem reduce {r : Ring} (f : Fine r) : ∀ j, ∃ i, i ≤ j ∧ i < 24 ∧ ringAfter r j = ringAfter r i := by
  intro j
  induction j using Nat.strongRecOn with
  | _ j ih =>
    by_cases h : j < 24
    · exact ⟨j, Nat.le_refl _, h, rfl⟩
    · have hi := f.hi
      have lo := f.lo
      obtain ⟨i, h1, h2, h3⟩ := ih (j - r.length) (by omega)
      refine ⟨i, by omega, h2, ?_⟩
      rw [← h3]
      have e1 : j = 12 + r.length + (j - 12 - r.length) := by omega
      have e2 : j - r.length = 12 + (j - 12 - r.length) := by omega
      rw [e2]
      conv => lhs; rw [e1]
      rw [after_add, repeat12 f, ← after_add]
theorem never {p : Ring → Bool} {r : Ring} (f : Fine r) {n : Nat} (hn : 23 ≤ n) (h : ∀ j, j ≤ n → p (ringAfter r j) = false) (j : Nat) : p (ringAfter r j) = false := by
  obtain ⟨i, h1, h2, h3⟩ := reduce f j
  rw [h3]
  exact h i (by omega)
/-! ### the cycle -/
theorem find_range {p : Nat → Bool} {n i : Nat} (hi : i < n) (hp : p i = true) (hm : ∀ j, j < i → p j = false) : (List.range n).find? p = some i := by
  rw [List.find?_range_eq_some]
  exact ⟨hp, List.mem_range.mpr hi, fun j hj => by rw [hm j hj]; rfl⟩
theorem find_range_none {p : Nat → Bool} {n : Nat} (h : ∀ j, j < n → p j = false) : (List.range n).find? p = none := by
  rw [List.find?_eq_none]
  intro j hj
  rw [h j (List.mem_range.mp hj)]
  decide
theorem someOf_range {α : Type} {g : Nat → Option α} {x : α} : ∀ {n k : Nat}, k < n → g k = some x → (∀ j, j < k → g j = none) → (List.range n).findSome? g = some x := by
  intro n
  induction n with
  | zero => intro k h; exact absurd h (Nat.not_lt_zero _)
  | succ n ih =>
    intro k hk hg hm
    rw [List.range_succ, List.findSome?_append]
    by_cases h : k < n
    · rw [ih h hg hm]
      rfl
    · obtain rfl : k = n := by omega
      have : (List.range k).findSome? g = none := by
        rw [List.findSome?_eq_none_iff]
        intro j hj
        exact hm j (List.mem_range.mp hj)
      rw [this]
      show (List.findSome? g [k]) = some x
      rw [List.findSome?_cons, hg]
theorem cycle_of {r : Ring} {i k : Nat} (hik : i < k) (hk : k ≤ 60) (he : ringAfter r i = ringAfter r k)
    (hm : ∀ k' i', k' < k → i' < k' → ringAfter r i' ≠ ringAfter r k') : Kv439.cycle r = (i, k - i) := by
  have get : ∀ j, j ≤ 60 → (trajectory r maxSteps).getD j [] = ringAfter r j := fun j hj => by
    rw [List.getD_eq_getElem?_getD, traj_get maxSteps j r hj]
    rfl
  have beq : ∀ a b : Ring, (a == b) = decide (a = b) := fun a b => by
    by_cases h : a = b
    · rw [h]; simp
    · simp [h]
  have fnd : ((List.range k).find? fun i' => (trajectory r maxSteps).getD i' [] == (trajectory r maxSteps).getD k []) = some i := by
    refine find_range hik ?_ fun j hj => ?_
    · rw [get i (by omega), get k hk, beq]
      exact decide_eq_true he
    · rw [get j (by omega), get k hk, beq]
      refine decide_eq_false fun z => ?_
      exact hm i j (by omega) hj (z.trans he.symm)
  have non : ∀ k', k' < k → ((List.range k').find? fun i' => (trajectory r maxSteps).getD i' [] == (trajectory r maxSteps).getD k' []) = none := fun k' hk' => by
    refine find_range_none fun j hj => ?_
    rw [get j (by omega), get k' (by omega), beq]
    exact decide_eq_false (hm k' j hk' hj)
  unfold Kv439.cycle
  have len : (trajectory r maxSteps).length = 61 := traj_len 60 r
  have key : ((List.range (trajectory r maxSteps).length).findSome? fun k => ((List.range k).find? fun i => (trajectory r maxSteps).getD i [] == (trajectory r maxSteps).getD k []).map fun i => (i, k - i)) = some (i, k - i) := by
    refine someOf_range (k := k) (by rw [len]; omega) ?_ fun j hj => ?_
    · rw [fnd]
      rfl
    · rw [non j hj]
      rfl
  dsimp only
  rw [key]
/-- there is a first ring that stood before, by step 24 -/
theorem first_again {r : Ring} (f : Fine r) : ∃ i k, i < k ∧ k ≤ 24 ∧ ringAfter r i = ringAfter r k ∧ ∀ k' i', k' < k → i' < k' → ringAfter r i' ≠ ringAfter r k' := by
  have ex : ∃ k, ∃ i, i < k ∧ k ≤ 24 ∧ ringAfter r i = ringAfter r k :=
    ⟨12 + r.length, 12, by have := f.lo; omega, by have := f.hi; omega, (repeat12 f).symm⟩
  have low : ∀ n, (∃ k, k ≤ n ∧ ∃ i, i < k ∧ k ≤ 24 ∧ ringAfter r i = ringAfter r k) →
      ∃ i k, i < k ∧ k ≤ 24 ∧ ringAfter r i = ringAfter r k ∧ ∀ k' i', k' < k → i' < k' → ringAfter r i' ≠ ringAfter r k' := by
    intro n
    induction n with
    | zero =>
      rintro ⟨k, hk, i, hi, _⟩
      omega
    | succ n ih =>
      rintro ⟨k, hk, i, hi, h24, he⟩
      by_cases h : ∃ k', k' ≤ n ∧ ∃ i, i < k' ∧ k' ≤ 24 ∧ ringAfter r i = ringAfter r k'
      · exact ih h
      · refine ⟨i, k, hi, h24, he, fun k' i' h1 h2 z => h ⟨k', by omega, i', h2, by omega, z⟩⟩
  obtain ⟨k, h⟩ := ex
  exact low k ⟨k, Nat.le_refl _, h⟩
end Sw

set_option Elab.async false
set_option maxRecDepth 100000
namespace Sw
open Kv439
/-! ### sums round the ring -/
theorem sum_map_add {f g : Nat → Int} (l : List Nat) : (l.map fun i => f i + g i).sum = (l.map f).sum + (l.map g).sum := by
  induction l with
  | nil => rfl
  | cons x l ih =>
    simp only [List.map_cons, List.sum_cons, ih]
    omega
theorem sum_map_mul {f : Nat → Int} (c : Int) (l : List Nat) : (l.map fun i => c * f i).sum = c * (l.map f).sum := by
  induction l with
  | nil => simp
  | cons x l ih =>
    simp only [List.map_cons, List.sum_cons, ih, Int.mul_add]
theorem sum_congr {f g : Nat → Int} {l : List Nat} (h : ∀ i ∈ l, f i = g i) : (l.map f).sum = (l.map g).sum := by
  rw [List.map_congr_left h]
theorem sum_turn (f : Nat → Int) (n : Nat) (h : 0 < n) : ((List.range n).map fun i => f ((i + 1) % n)).sum = ((List.range n).map f).sum := by
  obtain ⟨m, rfl⟩ : ∃ m, n = m + 1 := ⟨n - 1, by omega⟩
  have e1 : ((List.range (m + 1)).map f).sum = f 0 + ((List.range m).map fun i => f (i + 1)).sum := by
    rw [List.range_succ_eq_map, List.map_cons, List.sum_cons, List.map_map]
    rfl
  have e2 : ((List.range (m + 1)).map fun i => f ((i + 1) % (m + 1))).sum = ((List.range m).map fun i => f (i + 1)).sum + f 0 := by
    rw [List.range_succ, List.map_append, List.sum_append]
    have a : (List.map (fun i => f ((i + 1) % (m + 1))) [m]).sum = f 0 := by
      show f ((m + 1) % (m + 1)) + 0 = f 0
      rw [Nat.mod_self, Int.add_zero]
    rw [a]
    refine congrArg (· + f 0) (sum_congr fun i hi => ?_)
    rw [Nat.mod_eq_of_lt (by have := List.mem_range.mp hi; omega)]
  rw [e1, e2, Int.add_comm]
theorem state_next {r : Ring} {i : Nat} : stateAt r (i + 1) = stateAt r ((i + 1) % r.length) := by
  unfold stateAt
  rw [Nat.mod_mod]
def turns (r : Ring) : Int := ((List.range r.length).map fun i => phaseDifference (stateAt r i) (stateAt r (i + 1))).sum
theorem wind_eq (r : Ring) : windingNumber r = turns r / 3 := rfl
/-- a phase difference is the difference of the states, but for a multiple of 3 -/
def over (s t : Nat) : Int := if s = 0 ∧ t = 2 then -1 else if s = 2 ∧ t = 0 then 1 else 0
theorem phase_over {s t : Nat} (hs : s ≤ 2) (ht : t ≤ 2) : phaseDifference s t = ((t : Int) - (s : Int)) + 3 * over s t := by
  have cs : s = 0 ∨ s = 1 ∨ s = 2 := by omega
  have ct : t = 0 ∨ t = 1 ∨ t = 2 := by omega
  rcases cs with rfl | rfl | rfl <;> rcases ct with rfl | rfl | rfl <;> decide
theorem turns_three {r : Ring} (f : Fine r) : ∃ k, turns r = 3 * k := by
  have h0 : 0 < r.length := Nat.lt_of_lt_of_le (by decide) f.lo
  refine ⟨((List.range r.length).map fun i => over (stateAt r i) (stateAt r (i + 1))).sum, ?_⟩
  have e : turns r = ((List.range r.length).map fun i => (((stateAt r (i + 1) : Nat) : Int) + (-1) * ((stateAt r i : Nat) : Int)) + 3 * over (stateAt r i) (stateAt r (i + 1))).sum := by
    refine sum_congr fun i _ => ?_
    rw [phase_over (f.state i) (f.state (i + 1))]
    omega
  rw [e, sum_map_add, sum_map_add, sum_map_mul, sum_map_mul]
  have t := sum_turn (fun i => ((stateAt r i : Nat) : Int)) r.length h0
  have t2 : ((List.range r.length).map fun i => ((stateAt r (i + 1) : Nat) : Int)).sum = ((List.range r.length).map fun i => ((stateAt r i : Nat) : Int)).sum := by
    rw [← t]
    refine sum_congr fun i _ => ?_
    rw [state_next]
  rw [t2]
  omega
/-- whether a section goes on -/
def goes (r : Ring) (i : Nat) : Int := if stateAt r i = 0 ∧ cell r i = 0 then 0 else 1
theorem next_state {r : Ring} (h0 : 0 < r.length) (i : Nat) : stateAt (nextRing r) i = cell r (i % r.length) := by
  have h : i % r.length < r.length := Nat.mod_lt _ h0
  unfold stateAt
  rw [next_len, next_eq, getD_map (a := 0) (by rw [List.length_range]; exact h), range_getD h]
theorem cell_mod {r : Ring} (h0 : 0 < r.length) (i : Nat) : cell r (i % r.length) = cell r i := by
  have e1 : stateAt r (i % r.length) = stateAt r i := by unfold stateAt; rw [Nat.mod_mod]
  have e2 : stateAt r (i % r.length + 1) = stateAt r (i + 1) := by unfold stateAt; rw [Nat.mod_add_mod]
  have e3 : previousState r (i % r.length) = previousState r i := by
    unfold previousState stateAt
    have a : i % r.length + r.length - 1 = i % r.length + (r.length - 1) := by omega
    have b : i + r.length - 1 = i + (r.length - 1) := by omega
    rw [a, b, Nat.mod_add_mod]
  unfold cell
  rw [e1, e2, e3]
theorem phase_step {r : Ring} (f : Fine r) (i : Nat) :
    phaseDifference (cell r i) (cell r (i + 1)) = phaseDifference (stateAt r i) (stateAt r (i + 1)) + (goes r (i + 1) + (-1) * goes r i) := by
  have h0 : 0 < r.length := Nat.lt_of_lt_of_le (by decide) f.lo
  have p : previousState r (i + 1) = stateAt r i := by
    unfold previousState stateAt
    rw [show i + 1 + r.length - 1 = i + r.length by omega, Nat.add_mod_right]
  have hx := f.state i
  have hy := f.state (i + 1)
  have hz : cell r i = (if stateAt r i = 1 then 2 else if stateAt r i = 2 then 0 else if stateAt r (i + 1) = 1 ∨ previousState r i = 1 then 1 else 0) := rfl
  have hw : cell r (i + 1) = (if stateAt r (i + 1) = 1 then 2 else if stateAt r (i + 1) = 2 then 0 else if stateAt r (i + 2) = 1 ∨ previousState r (i + 1) = 1 then 1 else 0) := rfl
  unfold goes
  rw [hz, hw, p]
  generalize stateAt r i = x at *
  generalize stateAt r (i + 1) = y at *
  generalize stateAt r (i + 2) = z at *
  generalize previousState r i = w at *
  have cx : x = 0 ∨ x = 1 ∨ x = 2 := by omega
  have cy : y = 0 ∨ y = 1 ∨ y = 2 := by omega
  by_cases a : z = 1 <;> by_cases b : w = 1 <;> rcases cx with rfl | rfl | rfl <;> rcases cy with rfl | rfl | rfl <;> simp [a, b, phaseDifference]
theorem turns_next {r : Ring} (f : Fine r) : turns (nextRing r) = turns r := by
  have h0 : 0 < r.length := Nat.lt_of_lt_of_le (by decide) f.lo
  have e : turns (nextRing r) = ((List.range r.length).map fun i => phaseDifference (stateAt r i) (stateAt r (i + 1)) + (goes r (i + 1) + (-1) * goes r i)).sum := by
    unfold turns
    rw [next_len]
    refine sum_congr fun i _ => ?_
    rw [next_state h0, next_state h0, cell_mod h0, cell_mod h0, phase_step f]
  have g : ∀ i, goes r (i + 1) = goes r ((i + 1) % r.length) := fun i => by
    unfold goes
    rw [cell_mod h0, ← state_next]
  rw [e, sum_map_add, sum_map_add, sum_map_mul]
  have t := sum_turn (goes r) r.length h0
  have t2 : ((List.range r.length).map fun i => goes r (i + 1)).sum = ((List.range r.length).map (goes r)).sum := by
    rw [← t]
    exact sum_congr fun i _ => g i
  have t3 : ((List.range r.length).map fun i => goes r i).sum = ((List.range r.length).map (goes r)).sum := rfl
  rw [t2, t3]
  unfold turns
  omega
theorem turns_after {r : Ring} : ∀ (n : Nat) {r : Ring}, Fine r → turns (ringAfter r n) = turns r
  | 0, _, _ => rfl
  | n + 1, _, f => (turns_after (r := r) n f.next).trans (turns_next f)
/-- no step changes the winding number -/
theorem wind_after {r : Ring} (f : Fine r) (n : Nat) : windingNumber (ringAfter r n) = windingNumber r := by
  rw [wind_eq, wind_eq, turns_after (r := r) n f]
end Sw

set_option Elab.async false
set_option maxRecDepth 100000
namespace Sw
open Kv439
def upB (n : Nat) (p : List Nat × List Nat) (i : Nat) : Nat :=
  ((p.1.getD ((i + 1) % n) 0) ^^^ ((p.1.getD ((i + 1) % n) 0) &&& ((p.1.getD i 0) ||| (p.2.getD i 0)))) |||
    (((p.1.getD i 0) &&& (p.2.getD ((i + 1) % n) 0)) ||| ((p.2.getD i 0) ^^^ ((p.2.getD i 0) &&& ((p.1.getD ((i + 1) % n) 0) ||| (p.2.getD ((i + 1) % n) 0)))))
def downB (n : Nat) (p : List Nat × List Nat) (i : Nat) : Nat :=
  ((p.1.getD i 0) ^^^ ((p.1.getD i 0) &&& ((p.1.getD ((i + 1) % n) 0) ||| (p.2.getD ((i + 1) % n) 0)))) |||
    (((p.2.getD i 0) &&& (p.1.getD ((i + 1) % n) 0)) ||| ((p.2.getD ((i + 1) % n) 0) ^^^ ((p.2.getD ((i + 1) % n) 0) &&& ((p.1.getD i 0) ||| (p.2.getD i 0)))))
def someB (p : List Nat × List Nat) (i : Nat) : Nat := p.1.getD i 0 ||| p.2.getD i 0
def anyB (f : Nat → Nat) : Nat → Nat
  | 0 => 0
  | n + 1 => anyB f n ||| f n
def oneWay (n : Nat) : Bool :=
  Nat.beq (anyB (upB n (runB n 12 (patB n))) n &&& anyB (downB n (runB n 12 (patB n))) n) 0 &&
    Nat.beq (anyB (someB (runB n 12 (patB n))) n ^^^ (anyB (someB (runB n 12 (patB n))) n &&& (anyB (upB n (runB n 12 (patB n))) n ||| anyB (downB n (runB n 12 (patB n))) n))) 0
set_option maxHeartbeats 0 in
theorem one3 : oneWay 3 = true := by decide +kernel
set_option maxHeartbeats 0 in
theorem one4 : oneWay 4 = true := by decide +kernel
set_option maxHeartbeats 0 in
theorem one5 : oneWay 5 = true := by decide +kernel
set_option maxHeartbeats 0 in
theorem one6 : oneWay 6 = true := by decide +kernel
set_option maxHeartbeats 0 in
theorem one7 : oneWay 7 = true := by decide +kernel
set_option maxHeartbeats 0 in
theorem one8 : oneWay 8 = true := by decide +kernel
set_option maxHeartbeats 0 in
theorem one9 : oneWay 9 = true := by decide +kernel
set_option maxHeartbeats 0 in
theorem one10 : oneWay 10 = true := by decide +kernel
set_option maxHeartbeats 0 in
theorem one11 : oneWay 11 = true := by decide +kernel
set_option maxHeartbeats 0 in
theorem one12 : oneWay 12 = true := by decide +kernel
theorem one_all {n : Nat} (h1 : 3 ≤ n) (h2 : n ≤ 12) : oneWay n = true := by
  have : n = 3 ∨ n = 4 ∨ n = 5 ∨ n = 6 ∨ n = 7 ∨ n = 8 ∨ n = 9 ∨ n = 10 ∨ n = 11 ∨ n = 12 := by omega
  rcases this with rfl | rfl | rfl | rfl | rfl | rfl | rfl | rfl | rfl | rfl
  · exact one3
  · exact one4
  · exact one5
  · exact one6
  · exact one7
  · exact one8
  · exact one9
  · exact one10
  · exact one11
  · exact one12
theorem any_bit {f : Nat → Nat} {k : Nat} : ∀ {n : Nat}, (anyB f n).testBit k = true ↔ ∃ i, i < n ∧ (f i).testBit k = true
  | 0 => by
    constructor
    · intro h
      rw [show anyB f 0 = 0 from rfl, Nat.zero_testBit] at h
      cases h
    · rintro ⟨i, h, _⟩
      exact absurd h (Nat.not_lt_zero _)
  | n + 1 => by
    rw [show anyB f (n + 1) = (anyB f n ||| f n) from rfl, Nat.testBit_or, Bool.or_eq_true, any_bit]
    constructor
    · rintro (⟨i, h1, h2⟩ | h)
      · exact ⟨i, by omega, h2⟩
      · exact ⟨n, by omega, h⟩
    · rintro ⟨i, h1, h2⟩
      by_cases e : i = n
      · exact .inr (e ▸ h2)
      · exact .inl ⟨i, by omega, h2⟩
section
variable {r : Ring} {k : Nat} {p : List Nat × List Nat}
theorem Holds.at_ (h : Holds r k p) {i : Nat} (hi : i < r.length) :
    (p.1.getD i 0).testBit k = (stateAt r i == 1) ∧ (p.2.getD i 0).testBit k = (stateAt r i == 2) := by
  rw [state_lt hi]
  exact ⟨h.s i hi, h.q i hi⟩
theorem Holds.up (h : Holds r k p) (f : Fine r) {i : Nat} (hi : i < r.length) :
    (upB r.length p i).testBit k = true ↔ phaseDifference (stateAt r i) (stateAt r (i + 1)) = 1 := by
  have h0 : 0 < r.length := by omega
  have ln : (i + 1) % r.length < r.length := Nat.mod_lt _ h0
  obtain ⟨a1, a2⟩ := h.at_ hi
  obtain ⟨b1, b2⟩ := h.at_ ln
  rw [← state_next] at b1 b2
  unfold upB
  simp only [Nat.testBit_or, Nat.testBit_xor, Nat.testBit_and, a1, a2, b1, b2]
  have hx := f.state i
  have hy := f.state (i + 1)
  generalize stateAt r i = x at *
  generalize stateAt r (i + 1) = y at *
  have cx : x = 0 ∨ x = 1 ∨ x = 2 := by omega
  have cy : y = 0 ∨ y = 1 ∨ y = 2 := by omega
  rcases cx with rfl | rfl | rfl <;> rcases cy with rfl | rfl | rfl <;> decide
theorem Holds.down (h : Holds r k p) (f : Fine r) {i : Nat} (hi : i < r.length) :
    (downB r.length p i).testBit k = true ↔ phaseDifference (stateAt r i) (stateAt r (i + 1)) = -1 := by
  have h0 : 0 < r.length := by omega
  have ln : (i + 1) % r.length < r.length := Nat.mod_lt _ h0
  obtain ⟨a1, a2⟩ := h.at_ hi
  obtain ⟨b1, b2⟩ := h.at_ ln
  rw [← state_next] at b1 b2
  unfold downB
  simp only [Nat.testBit_or, Nat.testBit_xor, Nat.testBit_and, a1, a2, b1, b2]
  have hx := f.state i
  have hy := f.state (i + 1)
  generalize stateAt r i = x at *
  generalize stateAt r (i + 1) = y at *
  have cx : x = 0 ∨ x = 1 ∨ x = 2 := by omega
  have cy : y = 0 ∨ y = 1 ∨ y = 2 := by omega
  rcases cx with rfl | rfl | rfl <;> rcases cy with rfl | rfl | rfl <;> decide
theorem Holds.some_ (h : Holds r k p) (f : Fine r) {i : Nat} (hi : i < r.length) : (someB p i).testBit k = true ↔ stateAt r i ≠ 0 := by
  obtain ⟨a1, a2⟩ := h.at_ hi
  unfold someB
  rw [Nat.testBit_or, a1, a2]
  have hx := f.state i
  generalize stateAt r i = x at *
  have cx : x = 0 ∨ x = 1 ∨ x = 2 := by omega
  rcases cx with rfl | rfl | rfl <;> decide
end
theorem phase_cases {s t : Nat} : phaseDifference s t = 1 ∨ phaseDifference s t = -1 ∨ phaseDifference s t = 0 := by
  unfold phaseDifference
  split
  · exact .inl rfl
  · split
    · exact .inr (.inl rfl)
    · exact .inr (.inr rfl)
theorem sum_nonneg {f : Nat → Int} {l : List Nat} (h : ∀ i ∈ l, 0 ≤ f i) : 0 ≤ (l.map f).sum := by
  induction l with
  | nil => simp
  | cons x l ih =>
    rw [List.map_cons, List.sum_cons]
    have := h x (List.mem_cons_self ..)
    have := ih fun i hi => h i (List.mem_cons_of_mem _ hi)
    omega
theorem sum_pos {f : Nat → Int} {l : List Nat} (h : ∀ i ∈ l, 0 ≤ f i) {j : Nat} (hj : j ∈ l) (hp : 0 < f j) : 0 < (l.map f).sum := by
  induction l with
  | nil => cases hj
  | cons x l ih =>
    rw [List.map_cons, List.sum_cons]
    have a := h x (List.mem_cons_self ..)
    have b := sum_nonneg fun i hi => h i (List.mem_cons_of_mem x hi)
    rcases List.mem_cons.mp hj with rfl | hj
    · omega
    · have := ih (fun i hi => h i (List.mem_cons_of_mem _ hi)) hj
      omega
theorem quiet_iff {r : Ring} : isQuiet r = true ↔ ∀ i, i < r.length → stateAt r i = 0 := by
  unfold isQuiet
  rw [List.all_eq_true]
  constructor
  · intro h i hi
    rw [state_lt hi]
    exact eq_of_beq (h _ (getD_mem hi))
  · intro h x hx
    obtain ⟨i, hi, rfl⟩ := List.mem_iff_getElem.mp hx
    have := h i hi
    rw [state_lt hi, List.getD_eq_getElem?_getD, List.getElem?_eq_getElem hi] at this
    exact beq_iff_eq.mpr this
/-- at step 12 a ring is quiet, or its phases turn one way -/
theorem turns_zero {r : Ring} (f : Fine r) : turns r = 0 ↔ isQuiet (ringAfter r 12) = true := by
  obtain ⟨k, hk, h0⟩ := pat_has r f.st
  have h := h0.run 12
  have fT := Fine.after 12 f
  have len : (ringAfter r 12).length = r.length := after_len 12 r
  have chk := one_all f.lo f.hi
  unfold oneWay at chk
  rw [Bool.and_eq_true] at chk
  have c1 := Nat.eq_of_beq_eq_true chk.1
  have c2 := Nat.eq_of_beq_eq_true chk.2
  rw [← turns_after (r := r) 12 f]
  generalize ringAfter r 12 = T at *
  rw [← len] at c1 c2 h
  generalize runB T.length 12 (patB T.length) = p at *
  have up := fun i (hi : i < T.length) => h.up fT hi
  have down := fun i (hi : i < T.length) => h.down fT hi
  have som := fun i (hi : i < T.length) => h.some_ fT hi
  have b1 := congrArg (fun z => z.testBit k) c1
  have b2 := congrArg (fun z => z.testBit k) c2
  simp only [Nat.testBit_and, Nat.testBit_xor, Nat.testBit_or, Nat.zero_testBit] at b1 b2
  constructor
  · intro z
    rw [quiet_iff]
    intro i hi
    by_cases e : stateAt T i = 0
    · exact e
    exfalso
    have s1 : (anyB (someB p) T.length).testBit k = true := any_bit.mpr ⟨i, hi, (som i hi).mpr e⟩
    rw [s1] at b2
    cases u : (anyB (upB T.length p) T.length).testBit k with
    | true =>
      rw [u] at b1
      have nd : ∀ j ∈ List.range T.length, 0 ≤ phaseDifference (stateAt T j) (stateAt T (j + 1)) := fun j hj => by
        have hj' := List.mem_range.mp hj
        rcases phase_cases (s := stateAt T j) (t := stateAt T (j + 1)) with c | c | c
        · omega
        · have : (anyB (downB T.length p) T.length).testBit k = true := any_bit.mpr ⟨j, hj', (down j hj').mpr c⟩
          rw [this] at b1
          cases b1
        · omega
      obtain ⟨j, hj, hu⟩ := any_bit.mp u
      have hp := (up j hj).mp hu
      have := sum_pos nd (List.mem_range.mpr hj) (by omega)
      unfold turns at z
      omega
    | false =>
      rw [u] at b2
      cases d : (anyB (downB T.length p) T.length).testBit k with
      | false =>
        rw [d] at b2
        cases b2
      | true =>
        have nu : ∀ j ∈ List.range T.length, 0 ≤ (-1) * phaseDifference (stateAt T j) (stateAt T (j + 1)) := fun j hj => by
          have hj' := List.mem_range.mp hj
          rcases phase_cases (s := stateAt T j) (t := stateAt T (j + 1)) with c | c | c
          · have : (anyB (upB T.length p) T.length).testBit k = true := any_bit.mpr ⟨j, hj', (up j hj').mpr c⟩
            rw [this] at u
            cases u
          · omega
          · omega
        obtain ⟨j, hj, hd⟩ := any_bit.mp d
        have hp := (down j hj).mp hd
        have := sum_pos nu (List.mem_range.mpr hj) (by omega)
        rw [sum_map_mul] at this
        unfold turns at z
        omega
  · intro q
    have q' := quiet_iff.mp q
    have h0 : 0 < T.length := Nat.lt_of_lt_of_le (by decide) fT.lo
    unfold turns
    have : ((List.range T.length).map fun i => phaseDifference (stateAt T i) (stateAt T (i + 1))).sum = ((List.range T.length).map fun _ => (0 : Int)).sum := by
      refine sum_congr fun i hi => ?_
      rw [q' i (List.mem_range.mp hi), state_next, q' _ (Nat.mod_lt _ h0)]
      rfl
    rw [this]
    generalize T.length = n
    induction n with
    | zero => rfl
    | succ n ih =>
      rw [List.range_succ, List.map_append, List.sum_append, ih]
      rfl
/-- the winding number is 0 just where the ring becomes quiet -/
theorem wind_zero {r : Ring} (f : Fine r) : windingNumber r = 0 ↔ isQuiet (ringAfter r 12) = true := by
  rw [← turns_zero f, wind_eq]
  obtain ⟨k, hk⟩ := turns_three f
  omega
theorem quiet_next {r : Ring} (f : Fine r) (h : isQuiet r = true) : isQuiet (nextRing r) = true := by
  have h0 : 0 < r.length := Nat.lt_of_lt_of_le (by decide) f.lo
  have q := quiet_iff.mp h
  refine quiet_iff.mpr fun i hi => ?_
  rw [next_len] at hi
  have all : ∀ j, stateAt r j = 0 := fun j => by
    have := q (j % r.length) (Nat.mod_lt _ h0)
    unfold stateAt at this ⊢
    rw [Nat.mod_mod] at this
    exact this
  rw [next_state h0]
  unfold cell previousState
  rw [all, all, all]
  rfl
theorem quiet_after {r : Ring} (f : Fine r) (h : isQuiet r = true) : ∀ n, isQuiet (ringAfter r n) = true
  | 0 => h
  | n + 1 => by
    rw [← after_more]
    exact quiet_next (Fine.after n f) (quiet_after f h n)
/-- a ring that is not quiet at step 12 never is -/
theorem never_quiet {r : Ring} (f : Fine r) (h : windingNumber r ≠ 0) (n : Nat) : isQuiet (ringAfter r n) = false := by
  cases e : isQuiet (ringAfter r n) with
  | false => rfl
  | true =>
    exfalso
    have fn := Fine.after n f
    have q := quiet_after fn e 12
    have w := (wind_zero fn).mpr q
    rw [wind_after f] at w
    exact h w
end Sw

set_option Elab.async false
set_option linter.all false
set_option maxRecDepth 100000
set_option maxHeartbeats 4000000
namespace Sw
open PySem PySem.Spec PyProof.Rows L2
open Kv439 (Ring stateAt previousState nextRing ringAfter rotated standing)
/-- a ring as Python has it -/
def rv (r : Ring) : List V := r.map fun (n : Nat) => V.int (n : Int)
theorem rv_len (r : Ring) : (rv r).length = r.length := List.length_map ..
theorem rv_get {r : Ring} {i : Nat} (h : i < r.length) : (rv r)[i]? = some (V.int ((r.getD i 0 : Nat) : Int)) := by
  unfold rv
  rw [List.getElem?_map, List.getElem?_eq_getElem h, List.getD_eq_getElem?_getD, List.getElem?_eq_getElem h]
  rfl
theorem rv_at {r : Ring} {i : Nat} (h : i < r.length) : atI (rv r) (i : Int) = some (V.int ((r.getD i 0 : Nat) : Int)) := atI_nat (rv_get h)
theorem rv_st {r : Ring} (i : Nat) (h : 0 < r.length) : atI (rv r) (((i % r.length : Nat)) : Int) = some (V.int ((stateAt r i : Nat) : Int)) :=
  rv_at (Nat.mod_lt _ h)
theorem rv_ints (r : Ring) : rv r = (r.map fun (n : Nat) => (n : Int)).map V.int := by
  unfold rv
  rw [List.map_map]
  rfl
theorem vint_eq {a b : Nat} : decide (V.int (a : Int) = V.int (b : Int)) = decide (a = b) := by
  by_cases h : a = b
  · rw [h]; simp
  · have n : ¬ (V.int (a : Int) = V.int (b : Int)) := fun z => h (by injection z with z; omega)
    rw [decide_eq_false h, decide_eq_false n]
/-! ### promises -/
def spNext (K : PySem.W.Frag) : Sp := fun vs H Q _ => ∃ (a : Addr) (r : Ring) (i : Nat), vs = [.ref a, .int i] ∧ SqL K H a (rv r) ∧ i < r.length ∧ Q (.int (((i + 1) % r.length : Nat) : Int)) H
def spPrev (K : PySem.W.Frag) : Sp := fun vs H Q _ => ∃ (a : Addr) (r : Ring) (i : Nat), vs = [.ref a, .int i] ∧ SqL K H a (rv r) ∧ i < r.length ∧ Q (.int (((i + r.length - 1) % r.length : Nat) : Int)) H
def spStanding (K : PySem.W.Frag) : Sp := fun vs H Q _ => ∃ (a : Addr) (r : Ring), vs = [.ref a] ∧ SqL K H a (rv r) ∧ Q (.int ((standing r : Nat) : Int)) H
def spCell (K : PySem.W.Frag) : Sp := fun vs H Q _ => ∃ (a : Addr) (r : Ring) (i : Nat), vs = [.ref a, .int i] ∧ SqL K H a (rv r) ∧ i < r.length ∧ Q (.int ((cell r i : Nat) : Int)) H
def spStep (K : PySem.W.Frag) : Sp := fun vs H Q _ => ∃ (a : Addr) (r : Ring), vs = [.ref a] ∧ SqL K H a (rv r) ∧ Fine r ∧
  ∀ (H' : Hp) (p : Addr), Same H H' → H p = none → H' p = some (.lst (rv (nextRing r))) → Q (.ref p) H'
def spSteps (K : PySem.W.Frag) : Sp := fun vs H Q _ => ∃ (a : Addr) (r : Ring) (n : Nat), vs = [.ref a, .int n] ∧ SqL K H a (rv r) ∧ Fine r ∧ n ≤ 1000 ∧
  ∀ (H' : Hp) (p : Addr), Same H H' → H p = none → H' p = some (.lst (rv (ringAfter r n))) → Q (.ref p) H'
def spRot (K : PySem.W.Frag) : Sp := fun vs H Q _ => ∃ (a : Addr) (r : Ring) (n : Nat), vs = [.ref a, .int n] ∧ SqL K H a (rv r) ∧ Fine r ∧
  ∀ (H' : Hp) (p : Addr), Same H H' → H p = none → H' p = some (.lst (rv (rotated r n))) → Q (.ref p) H'
def spMir (K : PySem.W.Frag) : Sp := fun vs H Q _ => ∃ (a : Addr) (r : Ring), vs = [.ref a] ∧ SqL K H a (rv r) ∧ Fine r ∧
  ∀ (H' : Hp) (p : Addr), Same H H' → H p = none → H' p = some (.lst (rv r.reverse)) → Q (.ref p) H'
section
variable {P : Program} {w : World} {K : PySem.W.Frag} {mg : Str → Option Value} {base : Heap} {A : Ad}
theorem ok_next_section (T : Txt K mg A) : Good P w K mg base CX0 1 A.f_next_section ["states", "i"] (spNext K) := by
  obtain ⟨fd, F, b⟩ := T.F_next_section
  refine ⟨⟨fd, ?_, b⟩, F.kp⟩
  refine F.ok sc_next_section (fun vs H Q E h => ?_) (fun cdv Ar outer s H vs Q E hr h => ?_)
  · obtain ⟨a, r, i, rfl, _⟩ := h
    rfl
  have nd := sc_next_section.nd
  refine ⟨_, (pss_one (ps_ret (pe_op op_mod (pe_op op_add (pv 1) pe_int) (pe_callB call_len_seq (by rfl) T.n_len PySem.boot_len (pa_cons (pv 0) pa_nil))))), ?_⟩
  obtain ⟨a, r, i, rfl, hS, hi, q⟩ := h
  refine ⟨_, rfl, _, _, rfl, rfl, _, rfl, a, _, rfl, .inl hS, _, _, rfl, rfl, ?_, ?_⟩
  · show (0 : Int) < ((rv r).length : Int)
    rw [rv_len]
    omega
  · rw [rv_len]
    show Q (.int (((i : Int) + 1) % (r.length : Int))) H
    rw [next_idx]
    exact q
theorem ok_previous_section (T : Txt K mg A) : Good P w K mg base CX0 1 A.f_previous_section ["states", "i"] (spPrev K) := by
  obtain ⟨fd, F, b⟩ := T.F_previous_section
  refine ⟨⟨fd, ?_, b⟩, F.kp⟩
  refine F.ok sc_previous_section (fun vs H Q E h => ?_) (fun cdv Ar outer s H vs Q E hr h => ?_)
  · obtain ⟨a, r, i, rfl, _⟩ := h
    rfl
  have nd := sc_previous_section.nd
  refine ⟨_, (pss_one (ps_ret (pe_op op_mod (pe_op op_sub (pv 1) pe_int) (pe_callB call_len_seq (by rfl) T.n_len PySem.boot_len (pa_cons (pv 0) pa_nil))))), ?_⟩
  obtain ⟨a, r, i, rfl, hS, hi, q⟩ := h
  refine ⟨_, rfl, _, _, rfl, rfl, _, rfl, a, _, rfl, .inl hS, _, _, rfl, rfl, ?_, ?_⟩
  · show (0 : Int) < ((rv r).length : Int)
    rw [rv_len]
    omega
  · rw [rv_len]
    show Q (.int (((i : Int) - 1) % (r.length : Int))) H
    rw [prev_idx hi]
    exact q
theorem count_ints (x : Nat) : ∀ r : Ring, (r.map fun (n : Nat) => (n : Int)).count (x : Int) = r.count x
  | [] => rfl
  | y :: r => by
    rw [List.map_cons, List.count_cons, List.count_cons, count_ints x r]
    by_cases h : y = x
    · rw [h]; simp
    · have n : ¬ ((y : Int) = (x : Int)) := by omega
      simp [h, n]
theorem ok_standing_in (T : Txt K mg A) : Good P w K mg base CX0 1 A.f_standing_in ["states"] (spStanding K) := by
  obtain ⟨fd, F, b⟩ := T.F_standing_in
  refine ⟨⟨fd, ?_, b⟩, F.kp⟩
  refine F.ok sc_standing_in (fun vs H Q E h => ?_) (fun cdv Ar outer s H vs Q E hr h => ?_)
  · obtain ⟨a, r, rfl, _⟩ := h
    rfl
  have nd := sc_standing_in.nd
  refine ⟨_, (pss_one (ps_ret (pe_bm PySem.F.plainAttrs_list PySem.F.slot_list_count PySem.F.type_list_count mt_lcount (pv 0) (pa_cons (pe_gi T.v_STANDING) pa_nil)))), ?_⟩
  obtain ⟨a, r, rfl, hS, q⟩ := h
  rw [rv_ints] at hS
  refine ⟨_, rfl, .inl ⟨rfl, _, hS⟩, a, _, _, rfl, rfl, hS, ?_⟩
  have e := count_ints 1 r
  rw [← standing_count] at e
  show Q (.int (((r.map fun (n : Nat) => (n : Int)).count ((1 : Nat) : Int) : Nat) : Int)) H
  rw [e]
  exact q
theorem ok_section_after_step (T : Txt K mg A) : Good P w K mg base CX0 2 A.f_section_after_step ["states", "i"] (spCell K) := by
  obtain ⟨fd, F, b⟩ := T.F_section_after_step
  refine ⟨⟨fd, ?_, b⟩, F.kp⟩
  refine F.ok sc_section_after_step (fun vs H Q E h => ?_) (fun cdv Ar outer s H vs Q E hr h => ?_)
  · obtain ⟨a, r, i, rfl, _⟩ := h
    rfl
  have nd := sc_section_after_step.nd
  have G_previous_section := ok_previous_section (P := P) (w := w) (base := base) T
  have G_next_section := ok_next_section (P := P) (w := w) (base := base) T
  refine ⟨_, (pss_cons (ps_if (pt_cmpR op_eq (pe_ix ix_list (pv 0) (pv 1) (fun _ _ => rfl)) (pe_gi T.v_STANDING) (nomark _)) (pss_one (ps_ret (pe_gi T.v_RESTING))) pss_nil)
    (pss_cons (ps_if (pt_cmpR op_eq (pe_ix ix_list (pv 0) (pv 1) (fun _ _ => rfl)) (pe_gi T.v_RESTING) (nomark _)) (pss_one (ps_ret (pe_gi T.v_SEATED))) pss_nil)
    (pss_cons (ps_if (PW.pt (pw_or (pt_cmpR op_eq (pe_ix ix_list (pv 0) (pe_callG G_previous_section (hr.mono (by decide)) T.g_previous_section pass0 (pa_cons (pv 0) (pa_cons (pv 1) pa_nil))) (fun _ _ => rfl)) (pe_gi T.v_STANDING) (nomark _)) (pw_or1 (pt_cmpR op_eq (pe_ix ix_list (pv 0) (pe_callG G_next_section (hr.mono (by decide)) T.g_next_section pass0 (pa_cons (pv 0) (pa_cons (pv 1) pa_nil))) (fun _ _ => rfl)) (pe_gi T.v_STANDING) (nomark _))))) (pss_one (ps_ret (pe_gi T.v_STANDING))) pss_nil)
    (pss_one (ps_ret (pe_gi T.v_SEATED)))))), ?_⟩
  obtain ⟨a, r, i, rfl, hS, hi, q⟩ := h
  have z := rv_at hi
  have h0 : 0 < r.length := by omega
  rw [← state_lt hi] at z
  unfold cell at q
  refine ⟨_, rfl, _, rfl, a, _, _, _, rfl, rfl, hS, z, rfl, _, rfl, ?_⟩
  refine ite2 (fun c => ?_) (fun c => ?_)
  · have c' := of_decide_eq_true ((vint_eq (b := 1)).symm.trans c)
    rw [if_pos c'] at q
    exact q
  have c1 : ¬ stateAt r i = 1 := fun z => c ((vint_eq (b := 1)).trans (decide_eq_true z))
  rw [if_neg c1] at q
  refine ⟨_, rfl, _, rfl, a, _, _, _, rfl, rfl, hS, z, rfl, _, rfl, ?_⟩
  refine ite2 (fun c => ?_) (fun c => ?_)
  · have c' := of_decide_eq_true ((vint_eq (b := 2)).symm.trans c)
    rw [if_pos c'] at q
    exact q
  have c2 : ¬ stateAt r i = 2 := fun z => c ((vint_eq (b := 2)).trans (decide_eq_true z))
  rw [if_neg c2] at q
  refine ⟨_, rfl, _, rfl, _, rfl, a, r, i, rfl, hS, hi, a, _, _, _, rfl, rfl, hS, rv_st _ h0, rfl, _, rfl, ?_⟩
  refine ite2 (fun c => ?_) (fun c => ?_)
  · have c' := of_decide_eq_true ((vint_eq (b := 1)).symm.trans c)
    refine ite2 (fun _ => ?_) (fun n => absurd rfl n)
    have d : stateAt r (i + 1) = 1 ∨ previousState r i = 1 := .inr c'
    rw [if_pos d] at q
    exact q
  have c3 : ¬ previousState r i = 1 := fun z => c ((vint_eq (b := 1)).trans (decide_eq_true z))
  refine ⟨_, rfl, _, rfl, _, rfl, a, r, i, rfl, hS, hi, a, _, _, _, rfl, rfl, hS, rv_st _ h0, rfl, _, rfl, ?_⟩
  refine ite2 (fun c => ?_) (fun c => ?_)
  · have c' := of_decide_eq_true ((vint_eq (b := 1)).symm.trans c)
    have d : stateAt r (i + 1) = 1 ∨ previousState r i = 1 := .inl c'
    rw [if_pos d] at q
    exact q
  have c4 : ¬ stateAt r (i + 1) = 1 := fun z => c ((vint_eq (b := 1)).trans (decide_eq_true z))
  have d : ¬ (stateAt r (i + 1) = 1 ∨ previousState r i = 1) := fun z => z.elim c4 c3
  rw [if_neg d] at q
  exact q
theorem zadd (i : Nat) : (.int ((0 : Int) + (i : Int)) : V) = .int (i : Int) := by rw [Int.zero_add]
theorem rv_snoc (l : List Nat) (x : Nat) : rv l ++ [V.int (x : Int)] = rv (l ++ [x]) := by
  unfold rv
  rw [List.map_append]
  rfl
theorem range_snoc (f : Nat → Nat) (i : Nat) : (List.range i).map f ++ [f i] = (List.range (i + 1)).map f := by
  rw [List.range_succ, List.map_append]
  rfl
theorem small12 {n : Nat} (h : n ≤ 12) : n < sizeLine := Nat.lt_of_le_of_lt h (by decide)
/-- a comprehension over range(n) that makes f 0, f 1, .. -/
def Made (H : Hp) (D : Addr) (f : Nat → Nat) (i : Nat) (H' : Hp) : Prop := Same H H' ∧ H' D = some (.lst (rv ((List.range i).map f)))
theorem Made.start {H : Hp} {D : Addr} {f : Nat → Nat} (h : H D = none) : Made H D f 0 (upd H D (.lst [])) :=
  ⟨fun b o e => (upd_ne (ne_of_none e h)).trans e, upd_same⟩
theorem Made.more {H H' : Hp} {D : Addr} {f : Nat → Nat} {i : Nat} (hD : H D = none) (m : Made H D f i H') :
    Made H D f (i + 1) (upd H' D (.lst (rv ((List.range i).map f) ++ [V.int ((f i : Nat) : Int)]))) :=
  ⟨fun b o e => (upd_ne (ne_of_none e hD)).trans (m.1 b o e), by rw [upd_same, rv_snoc, range_snoc]⟩
theorem made_len {f : Nat → Nat} {i : Nat} : (rv ((List.range i).map f)).length = i := by rw [rv_len, List.length_map, List.length_range]
theorem ok_after_step (T : Txt K mg A) : Good P w K mg base CX0 3 A.f_after_step ["states"] (spStep K) := by
  obtain ⟨fd, F, b⟩ := T.F_after_step
  refine ⟨⟨fd, ?_, b⟩, F.kp⟩
  refine F.ok sc_after_step (fun vs H Q E h => ?_) (fun cdv Ar outer s H vs Q E hr h => ?_)
  · obtain ⟨a, r, rfl, _⟩ := h
    rfl
  have nd := sc_after_step.nd
  have G_section_after_step := ok_section_after_step (P := P) (w := w) (base := base) T
  refine ⟨_, (pss_one (ps_ret (pe_lc (own := [("i", 1)]) (g := gName 1) (tt := tYes) rfl nd (pi_range1 (by rfl) T.n_range (pa_cons (pe_callB call_len_seq (by rfl) T.n_len PySem.boot_len (pa_cons (pv 0) pa_nil)) pa_nil)) (blkOk_by (N := ["states", "i"]) (sc := defScope s_after_step) (by decide +kernel))
      (fun _ _ _ _ _ => pg_name (i := 1) nd rfl (Or.inl rfl)) (fun _ _ _ _ _ => pts_nil) (fun _ _ _ _ _ => (pe_callG G_section_after_step (hr.mono (by decide)) T.g_section_after_step pass0 (pa_cons (pv 0) (pa_cons (pv 1) pa_nil))))))), ?_⟩
  obtain ⟨a, r, rfl, hS, hf, q⟩ := h
  have hi := hf.hi
  refine ⟨_, rfl, a, _, rfl, .inl hS, _, rfl, ?_, ?_, fun D hD => lc_range (lo := 0) (n := (rv r).length) (Made H D (cell r)) (Made.start hD) (fun i H' hi' m => ?_) (fun H' m => ?_)⟩
  · rw [rv_len]; omega
  · rw [rv_len]; omega
  · rw [rv_len] at hi'
    refine ⟨rfl, ?_⟩
    refine ⟨_, rfl, _, rfl, a, r, i, ?_, m.1.seq hS, hi', _, m.2, ?_, m.more hD⟩
    · show [V.ref a, V.int ((0 : Int) + (i : Int))] = _
      rw [zadd]
    · rw [made_len]
      exact small12 (by omega)
  · rw [rv_len] at m
    exact q H' D m.1 hD m.2
theorem ok_rotated (T : Txt K mg A) : Good P w K mg base CX0 1 A.f_rotated ["states", "distance"] (spRot K) := by
  obtain ⟨fd, F, b⟩ := T.F_rotated
  refine ⟨⟨fd, ?_, b⟩, F.kp⟩
  refine F.ok sc_rotated (fun vs H Q E h => ?_) (fun cdv Ar outer s H vs Q E hr h => ?_)
  · obtain ⟨a, r, n, rfl, _⟩ := h
    rfl
  have nd := sc_rotated.nd
  refine ⟨_, (pss_one (ps_ret (pe_lc (own := [("i", 2)]) (g := gName 2) (tt := tYes) rfl nd (pi_range1 (by rfl) T.n_range (pa_cons (pe_callB call_len_seq (by rfl) T.n_len PySem.boot_len (pa_cons (pv 0) pa_nil)) pa_nil)) (blkOk_by (N := ["states", "distance", "i"]) (sc := defScope s_rotated) (by decide +kernel))
      (fun _ _ _ _ _ => pg_name (i := 2) nd rfl (Or.inl rfl)) (fun _ _ _ _ _ => pts_nil) (fun _ _ _ _ _ => (pe_ix (ixl_K (K := K) rfl) (pv 0) (pe_op op_mod (pe_op op_add (pv 2) (pv 1)) (pe_callB (len_K (K := K) rfl) (by rfl) T.n_len PySem.boot_len (pa_cons (pv 0) pa_nil))) (fun _ _ => rfl)))))), ?_⟩
  obtain ⟨a, r, n, rfl, hS, hf, q⟩ := h
  have hi := hf.hi
  have h0 : 0 < r.length := Nat.lt_of_lt_of_le (by decide) hf.lo
  refine ⟨_, rfl, a, _, rfl, .inl hS, _, rfl, ?_, ?_, fun D hD => lc_range (lo := 0) (n := (rv r).length) (Made H D (fun i => stateAt r (i + n))) (Made.start hD) (fun i H' hi' m => ?_) (fun H' m => ?_)⟩
  · rw [rv_len]; omega
  · rw [rv_len]; omega
  · rw [rv_len] at hi'
    refine ⟨rfl, ?_⟩
    refine ⟨_, rfl, _, rfl, _, rfl, _, _, rfl, rfl, _, rfl, a, _, rfl, .inl (m.1.seq hS), _, _, rfl, rfl, ?_, a, _, _, _, rfl, rfl, m.1.seq hS, ?_, _, m.2, ?_, m.more hD⟩
    · show (0 : Int) < ((rv r).length : Int)
      rw [rv_len]; omega
    · rw [rv_len, Int.zero_add, ← Int.natCast_add, ← Int.natCast_emod]
      exact rv_st _ h0
    · rw [made_len]
      exact small12 (by omega)
  · rw [rv_len] at m
    exact q H' D m.1 hD m.2
theorem ok_mirrored (T : Txt K mg A) : Good P w K mg base CX0 1 A.f_mirrored ["states"] (spMir K) := by
  obtain ⟨fd, F, b⟩ := T.F_mirrored
  refine ⟨⟨fd, ?_, b⟩, F.kp⟩
  refine F.ok sc_mirrored (fun vs H Q E h => ?_) (fun cdv Ar outer s H vs Q E hr h => ?_)
  · obtain ⟨a, r, rfl, _⟩ := h
    rfl
  have nd := sc_mirrored.nd
  refine ⟨_, (pss_one (ps_ret (pe_lc (own := [("i", 1)]) (g := gName 1) (tt := tYes) rfl nd (pi_range1 (by rfl) T.n_range (pa_cons (pe_callB call_len_seq (by rfl) T.n_len PySem.boot_len (pa_cons (pv 0) pa_nil)) pa_nil)) (blkOk_by (N := ["states", "i"]) (sc := defScope s_mirrored) (by decide +kernel))
      (fun _ _ _ _ _ => pg_name (i := 1) nd rfl (Or.inl rfl)) (fun _ _ _ _ _ => pts_nil) (fun _ _ _ _ _ => (pe_ix (ixl_K (K := K) rfl) (pv 0) (pe_op op_sub (pe_op op_sub (pe_callB (len_K (K := K) rfl) (by rfl) T.n_len PySem.boot_len (pa_cons (pv 0) pa_nil)) pe_int) (pv 1)) (fun _ _ => rfl)))))), ?_⟩
  obtain ⟨a, r, rfl, hS, hf, q⟩ := h
  have hi := hf.hi
  refine ⟨_, rfl, a, _, rfl, .inl hS, _, rfl, ?_, ?_, fun D hD => lc_range (lo := 0) (n := (rv r).length) (Made H D (fun i => r.getD (r.length - 1 - i) 0)) (Made.start hD) (fun i H' hi' m => ?_) (fun H' m => ?_)⟩
  · rw [rv_len]; omega
  · rw [rv_len]; omega
  · rw [rv_len] at hi'
    refine ⟨rfl, ?_⟩
    refine ⟨_, rfl, _, rfl, a, _, rfl, .inl (m.1.seq hS), _, _, rfl, rfl, _, rfl, _, _, rfl, rfl, a, _, _, _, rfl, rfl, m.1.seq hS, ?_, _, m.2, ?_, m.more hD⟩
    · rw [rv_len, Int.zero_add]
      have e : ((r.length : Int) - 1 - (i : Int)) = ((r.length - 1 - i : Nat) : Int) := by omega
      rw [e]
      exact rv_at (by omega)
    · rw [made_len]
      exact small12 (by omega)
  · rw [rv_len] at m
    have e := m.2
    rw [rev_map] at e
    exact q H' D m.1 hD e
theorem ok_after_steps (T : Txt K mg A) : Good P w K mg base CX0 4 A.f_after_steps ["states", "steps"] (spSteps K) := by
  obtain ⟨fd, F, b⟩ := T.F_after_steps
  refine ⟨⟨fd, ?_, b⟩, F.kp⟩
  refine F.ok sc_after_steps (fun vs H Q E h => ?_) (fun cdv Ar outer s H vs Q E hr h => ?_)
  · obtain ⟨a, r, n, rfl, _⟩ := h
    rfl
  have nd := sc_after_steps.nd
  have G_after_step := ok_after_step (P := P) (w := w) (base := base) T
  refine ⟨_, (pss_cons (ps_set (i := 2) nd rfl (Or.inl rfl) (pe_callTy call_list_of (by rfl) T.n_list (by decide +kernel) (pa_cons (pv 0) pa_nil)))
    (pss_cons (ps_for PassesOwn.never rfl (pi_range1 (by rfl) T.n_range (pa_cons (pv 1) pa_nil)) (pg_name (i := 3) nd rfl (Or.inl rfl))
    (pss_one (ps_set (i := 2) nd rfl (Or.inl rfl) (pe_callG G_after_step (hr.mono (by decide)) T.g_after_step pass0 (pa_cons (pv 2) pa_nil)))))
    (pss_one (ps_ret (pv 2))))), ?_⟩
  obtain ⟨a, r, n, rfl, hS, hf, hn, q⟩ := h
  refine ⟨_, rfl, a, _, rfl, .inl hS, fun l hl => ?_⟩
  refine ⟨_, rfl, n, rfl, by omega, by omega, for_range (lo := 0) (n := n) (fun i σ H' => ∃ (p : Addr) (v : Option V), σ = [some (.ref a), some (.int n), some (.ref p), v] ∧ Same H H' ∧ H p = none ∧ H' p = some (.lst (rv (ringAfter r i))))
    ⟨l, none, rfl, fun b o e => (upd_ne (ne_of_none e hl)).trans e, hl, upd_same⟩ ?_ ?_⟩
  · rintro i σ H' hi ⟨p, v, rfl, s5, hp, hp'⟩
    refine ⟨_, rfl, p, _, rfl, .inl (.inl hp'), hf.after i, fun H2 p2 s6 n2 e2 => ?_⟩
    refine ⟨p2, _, rfl, s5.trans s6, s5.free n2, ?_⟩
    rw [after_more] at e2
    exact e2
  · rintro σ H' ⟨p, v, rfl, s5, hp, hp'⟩
    exact ⟨_, rfl, q H' p s5 hp hp'⟩
end
end Sw

set_option Elab.async false
set_option linter.all false
set_option maxRecDepth 100000
set_option maxHeartbeats 4000000
namespace Sw
open PySem PySem.Spec PyProof.Rows L2
open Kv439 (Ring stateAt previousState nextRing ringAfter rotated standing)
/-! ### errors: an error's own dict bears its code -/
def errX (n : Int) : HO := .xd [("code", .int n)]
/-- what is wished of an error of the class at C with the code n, raised over H -/
def Err (E : XK) (C : Addr) (n : Int) (H : Hp) : Prop := ∀ d : Addr, H d = none → E (.ref C) (some d) (upd H d (errX n))
def spRefInit (K : PySem.W.Frag) : Sp := fun vs H Q _ => ∃ (a C : Addr) (n : Int), vs = [.ref a, .int n] ∧ ErrC K C ∧ H a = some (exo a C none) ∧
  ∀ dx, H dx = none → dx ≠ a → Q .non (upd (upd H dx (exd dx [("code", .int n)])) a (exo a C (some dx)))
def spErrInit (K : PySem.W.Frag) (n : Int) : Sp := fun vs H Q _ => ∃ (a C : Addr), vs = [.ref a] ∧ ErrC K C ∧ H a = some (exo a C none) ∧
  ∀ dx, H dx = none → dx ≠ a → Q .non (upd (upd H dx (exd dx [("code", .int n)])) a (exo a C (some dx)))
theorem raise_code {K : PySem.W.Frag} {C : Addr} {n : Int} {σ : L2.St} {H : Hp} {Q : XK} (T : ErrC K C) (h : Err Q C n H) :
    tMkE C (spErrInit K n) σ H Q := by
  intro a ha
  refine ⟨a, C, rfl, T, upd_same, fun dx ndx nea => ⟨rfl, dx, [("code", .int n)], upd_same, (upd_ne nea).trans upd_same, ?_, ?_⟩⟩
  · rw [upd_ne nea] at ndx
    exact ndx
  · have hd : H dx = none := by
      rw [upd_ne nea] at ndx
      exact ndx
    have e : upd (del (upd (upd (upd H a (exo a C none)) dx (exd dx [("code", .int n)])) a (exo a C (some dx))) a) dx (.xd [("code", .int n)]) = upd H dx (errX n) := by
      funext b
      by_cases hb : b = dx
      · rw [hb, upd_same, upd_same]
        rfl
      · rw [upd_ne hb, upd_ne hb]
        by_cases hc : b = a
        · rw [hc, del_same, ha]
        · rw [del_ne hc, upd_ne hc, upd_ne hb, upd_ne hc]
    rw [e]
    exact h dx hd
section
variable {P : Program} {w : World} {K : PySem.W.Frag} {mg : Str → Option Value} {base : Heap} {A : Ad}
theorem ok_Refusal_init (T : Txt K mg A) : Good P w K mg base CX0 1 A.f_Refusal_init ["self", "code"] (spRefInit K) := by
  obtain ⟨fd, F, b⟩ := T.F_Refusal_init
  refine ⟨⟨fd, ?_, b⟩, F.kp⟩
  refine F.ok sc_Refusal_init (fun vs H Q E h => ?_) (fun cdv Ar outer s H vs Q E hr h => ?_)
  · obtain ⟨a, C, n, rfl, _⟩ := h
    rfl
  have nd := sc_Refusal_init.nd
  refine ⟨_, (pss_cons (ps_expr (pe_base (by rfl) T.n_Exception T.vE (pa_cons (pv 0) pa_nil)))
    (pss_one (ps_code (pv 0) (pv 1)))), ?_⟩
  obtain ⟨a, C, n, rfl, e, ha, q⟩ := h
  exact ⟨_, rfl, a, C, [], rfl, by decide, e, ha, _, rfl, _, rfl, a, C, rfl, e, ha, q⟩
theorem ok_NoSimulator_init (T : Txt K mg A) : Good P w K mg base CX0 2 A.f_NoSimulator_init ["self"] (spErrInit K (-11)) := by
  obtain ⟨fd, F, b⟩ := T.F_NoSimulator_init
  refine ⟨⟨fd, ?_, b⟩, F.kp⟩
  refine F.ok sc_NoSimulator_init (fun vs H Q E h => ?_) (fun cdv Ar outer s H vs Q E hr h => ?_)
  · obtain ⟨a, C, rfl, _⟩ := h
    rfl
  have nd := sc_NoSimulator_init.nd
  have G_Refusal_init := ok_Refusal_init (P := P) (w := w) (base := base) T
  refine ⟨_, (pss_one (ps_expr (pe_overG T.r_Refusal T.o_Refusal G_Refusal_init (hr.mono (by decide)) pass0 T.g_Refusal (pa_cons (pv 0) (pa_cons (pe_un un_neg pe_int) pa_nil))))), ?_⟩
  obtain ⟨a, C, rfl, e, ha, q⟩ := h
  exact ⟨_, rfl, _, rfl, a, C, _, rfl, e, ha, q⟩
theorem ok_NoSection_init (T : Txt K mg A) : Good P w K mg base CX0 2 A.f_NoSection_init ["self"] (spErrInit K (-2)) := by
  obtain ⟨fd, F, b⟩ := T.F_NoSection_init
  refine ⟨⟨fd, ?_, b⟩, F.kp⟩
  refine F.ok sc_NoSection_init (fun vs H Q E h => ?_) (fun cdv Ar outer s H vs Q E hr h => ?_)
  · obtain ⟨a, C, rfl, _⟩ := h
    rfl
  have nd := sc_NoSection_init.nd
  have G_Refusal_init := ok_Refusal_init (P := P) (w := w) (base := base) T
  refine ⟨_, (pss_one (ps_expr (pe_overG T.r_Refusal T.o_Refusal G_Refusal_init (hr.mono (by decide)) pass0 T.g_Refusal (pa_cons (pv 0) (pa_cons (pe_un un_neg pe_int) pa_nil))))), ?_⟩
  obtain ⟨a, C, rfl, e, ha, q⟩ := h
  exact ⟨_, rfl, _, rfl, a, C, _, rfl, e, ha, q⟩
theorem ok_NotSeated_init (T : Txt K mg A) : Good P w K mg base CX0 2 A.f_NotSeated_init ["self"] (spErrInit K (-17)) := by
  obtain ⟨fd, F, b⟩ := T.F_NotSeated_init
  refine ⟨⟨fd, ?_, b⟩, F.kp⟩
  refine F.ok sc_NotSeated_init (fun vs H Q E h => ?_) (fun cdv Ar outer s H vs Q E hr h => ?_)
  · obtain ⟨a, C, rfl, _⟩ := h
    rfl
  have nd := sc_NotSeated_init.nd
  have G_Refusal_init := ok_Refusal_init (P := P) (w := w) (base := base) T
  refine ⟨_, (pss_one (ps_expr (pe_overG T.r_Refusal T.o_Refusal G_Refusal_init (hr.mono (by decide)) pass0 T.g_Refusal (pa_cons (pv 0) (pa_cons (pe_un un_neg pe_int) pa_nil))))), ?_⟩
  obtain ⟨a, C, rfl, e, ha, q⟩ := h
  exact ⟨_, rfl, _, rfl, a, C, _, rfl, e, ha, q⟩
theorem ok_OutOfRange_init (T : Txt K mg A) : Good P w K mg base CX0 2 A.f_OutOfRange_init ["self"] (spErrInit K (-22)) := by
  obtain ⟨fd, F, b⟩ := T.F_OutOfRange_init
  refine ⟨⟨fd, ?_, b⟩, F.kp⟩
  refine F.ok sc_OutOfRange_init (fun vs H Q E h => ?_) (fun cdv Ar outer s H vs Q E hr h => ?_)
  · obtain ⟨a, C, rfl, _⟩ := h
    rfl
  have nd := sc_OutOfRange_init.nd
  have G_Refusal_init := ok_Refusal_init (P := P) (w := w) (base := base) T
  refine ⟨_, (pss_one (ps_expr (pe_overG T.r_Refusal T.o_Refusal G_Refusal_init (hr.mono (by decide)) pass0 T.g_Refusal (pa_cons (pv 0) (pa_cons (pe_un un_neg pe_int) pa_nil))))), ?_⟩
  obtain ⟨a, C, rfl, e, ha, q⟩ := h
  exact ⟨_, rfl, _, rfl, a, C, _, rfl, e, ha, q⟩
theorem ok_NeverHappens_init (T : Txt K mg A) : Good P w K mg base CX0 2 A.f_NeverHappens_init ["self"] (spErrInit K (-33)) := by
  obtain ⟨fd, F, b⟩ := T.F_NeverHappens_init
  refine ⟨⟨fd, ?_, b⟩, F.kp⟩
  refine F.ok sc_NeverHappens_init (fun vs H Q E h => ?_) (fun cdv Ar outer s H vs Q E hr h => ?_)
  · obtain ⟨a, C, rfl, _⟩ := h
    rfl
  have nd := sc_NeverHappens_init.nd
  have G_Refusal_init := ok_Refusal_init (P := P) (w := w) (base := base) T
  refine ⟨_, (pss_one (ps_expr (pe_overG T.r_Refusal T.o_Refusal G_Refusal_init (hr.mono (by decide)) pass0 T.g_Refusal (pa_cons (pv 0) (pa_cons (pe_un un_neg pe_int) pa_nil))))), ?_⟩
  obtain ⟨a, C, rfl, e, ha, q⟩ := h
  exact ⟨_, rfl, _, rfl, a, C, _, rfl, e, ha, q⟩
/-- value <= greatest, or the error -/
def spAtMost (A : Ad) : Sp := fun vs H Q E => ∃ (v g : Int), vs = [.int v, .int g] ∧ (g < v → Err E A.c_OutOfRange (-22) H) ∧ (¬ g < v → Q .non H)
theorem ok_require_at_most (T : Txt K mg A) : Good P w K mg base (L2.CX P w) 4 A.f_require_at_most ["value", "greatest"] (spAtMost A) := by
  obtain ⟨fd, F, b⟩ := T.F_require_at_most
  refine ⟨⟨fd, ?_, b⟩, F.kp⟩
  refine F.okX sc_require_at_most (fun vs H Q E h => ?_) (fun cdv Ar outer s H vs Q E hr h => ?_)
  · obtain ⟨v, g, rfl, _⟩ := h
    rfl
  have nd := sc_require_at_most.nd
  have G_OutOfRange_init := ok_OutOfRange_init (P := P) (w := w) (base := base) T
  refine ⟨_, (pss_one (ps_if (pt_cmpR op_gt (pv 0) (pv 1) (nomark _)) (pss_one (ps_raise rfl (takes_of rfl rfl rfl rfl) (pmk_errG T.e_OutOfRange T.i_OutOfRange T.t_OutOfRange G_OutOfRange_init (hr.mono (by decide)) pass0 T.g_OutOfRange))) pss_nil)), ?_⟩
  obtain ⟨v, g, rfl, k1, k2⟩ := h
  refine ⟨_, rfl, _, rfl, _, _, rfl, rfl, _, rfl, ?_⟩
  refine ite2 (fun c => ?_) (fun c => ?_)
  · exact raise_code T.e_OutOfRange (k1 (of_decide_eq_true c))
  · exact k2 fun z => c (decide_eq_true z)
end
end Sw

set_option Elab.async false
set_option linter.all false
set_option maxRecDepth 100000
set_option maxHeartbeats 4000000
namespace Sw
open PySem PySem.Spec PyProof.Rows L2
open Kv439 (Ring stateAt previousState nextRing ringAfter rotated standing isQuiet trajectory maxSteps stepsUntilQuiet)
/-! ### rings as data -/
def ringD (r : Ring) : PyData := .list (r.map fun (n : Nat) => PyData.int (n : Int))
theorem dp_ints {K : PySem.W.Frag} {H : Hp} : ∀ r : Ring, DpAll K H (rv r) (r.map fun (n : Nat) => PyData.int (n : Int))
  | [] => .nil
  | n :: r => .cons (.int _) (dp_ints r)
theorem ring_dp {K : PySem.W.Frag} {H : Hp} {a : Addr} {r : Ring} (h : SqL K H a (rv r)) : Dp K H (.ref a) (ringD r) := .lst h (dp_ints r)
theorem dp_all {K : PySem.W.Frag} {H : Hp} : ∀ (xs : List V) (ds : List PyData), xs.length = ds.length →
    (∀ (j : Nat) (x : V) (d : PyData), xs[j]? = some x → ds[j]? = some d → Dp K H x d) → DpAll K H xs ds
  | [], [], _, _ => .nil
  | x :: xs, d :: ds, h, e => .cons (e 0 x d rfl rfl) (dp_all xs ds (by simpa using h) fun j y z h1 h2 => e (j + 1) y z h1 h2)
  | [], _ :: _, h, _ => by cases h
  | _ :: _, [], h, _ => by cases h
def ringsD (r : Ring) (k : Nat) : List PyData := (List.range k).map fun j => ringD (ringAfter r j)
theorem ringsD_get {r : Ring} {k j : Nat} (h : j < k) : (ringsD r k)[j]? = some (ringD (ringAfter r j)) := by
  unfold ringsD
  rw [List.getElem?_map, List.getElem?_range h]
  rfl
theorem ringsD_len {r : Ring} {k : Nat} : (ringsD r k).length = k := by
  unfold ringsD
  rw [List.length_map, List.length_range]
theorem ints_eqv : ∀ a b : Ring, PyData.eqvAll (a.map fun (n : Nat) => PyData.int (n : Int)) (b.map fun (n : Nat) => PyData.int (n : Int)) = decide (a = b)
  | [], [] => by simp [PyData.eqvAll]
  | [], y :: b => by simp [PyData.eqvAll]
  | x :: a, [] => by simp [PyData.eqvAll]
  | x :: a, y :: b => by
    have ih := ints_eqv a b
    simp only [List.map_cons, PyData.eqvAll, PyData.eqv, ih]
    by_cases h : x = y
    · subst h
      simp
    · have n : ((x : Int) == (y : Int)) = false := beq_eq_false_iff_ne.mpr (by omega)
      rw [n, Bool.false_and]
      exact (decide_eq_false fun z => h (List.cons.inj z).1).symm
theorem ringD_eqv (a b : Ring) : PyData.eqv (ringD a) (ringD b) = decide (a = b) := by
  unfold ringD
  simp only [PyData.eqv]
  exact ints_eqv a b
theorem ints_lay : ∀ r : Ring, PyData.canLayAll0 (r.map fun (n : Nat) => PyData.int (n : Int)) = true
  | [] => by simp [PyData.canLayAll0]
  | n :: r => by simp [PyData.canLayAll0, PyData.canLay0, ints_lay r]
theorem ints_depth : ∀ r : Ring, PyData.depthAll (r.map fun (n : Nat) => PyData.int (n : Int)) ≤ 1
  | [] => by simp [PyData.depthAll]
  | n :: r => by
    have h := ints_depth r
    simp only [List.map_cons, PyData.depthAll, PyData.depth]
    omega
theorem ringD_depth (r : Ring) : (ringD r).depth ≤ 2 := by
  have h := ints_depth r
  unfold ringD
  simp only [PyData.depth]
  omega
theorem ringD_lay (r : Ring) : (ringD r).canLay0 = true := by
  unfold ringD
  simp only [PyData.canLay0]
  exact ints_lay r
theorem ringD_shaped (r : Ring) : SeqAt.shaped (ringD r) = true := by
  have h := ringD_depth r
  show ((ringD r).canLay0 && decide ((ringD r).depth ≤ 64)) = true
  rw [Bool.and_eq_true]
  exact ⟨ringD_lay r, decide_eq_true (by omega)⟩
theorem all_lay {α : Type} {f : α → PyData} (h : ∀ x, (f x).canLay0 = true) : ∀ l : List α, PyData.canLayAll0 (l.map f) = true
  | [] => by simp [PyData.canLayAll0]
  | x :: l => by simp [PyData.canLayAll0, h x, all_lay h l]
theorem all_depth {α : Type} {f : α → PyData} (h : ∀ x, (f x).depth ≤ 2) : ∀ l : List α, PyData.depthAll (l.map f) ≤ 2
  | [] => by simp [PyData.depthAll]
  | x :: l => by
    have h1 := all_depth h l
    have h2 := h x
    simp only [List.map_cons, PyData.depthAll]
    omega
theorem ringsD_shaped (r : Ring) (k : Nat) : SeqAt.shaped (.list (ringsD r k)) = true := by
  have h1 : PyData.depthAll (ringsD r k) ≤ 2 := all_depth (fun j => ringD_depth (ringAfter r j)) (List.range k)
  have h2 : PyData.depth (.list (ringsD r k)) ≤ 64 := by
    simp only [PyData.depth]
    omega
  show (PyData.canLay0 (.list (ringsD r k)) && decide (PyData.depth (.list (ringsD r k)) ≤ 64)) = true
  rw [Bool.and_eq_true]
  exact ⟨by simp only [PyData.canLay0]; exact all_lay (fun j => ringD_lay (ringAfter r j)) (List.range k), decide_eq_true h2⟩
theorem any_no {r x : Ring} {k : Nat} (h : ∀ j, j < k → ringAfter r j ≠ x) : ((ringsD r k).any fun z => PyData.eqv z (ringD x)) = false := by
  rw [List.any_eq_false]
  intro d hd
  unfold ringsD at hd
  obtain ⟨j, hj, rfl⟩ := List.mem_map.mp hd
  rw [ringD_eqv, decide_eq_false (h j (List.mem_range.mp hj))]
  decide
theorem any_yes {r x : Ring} {j k : Nat} (hj : j < k) (h : ringAfter r j = x) : ((ringsD r k).any fun z => PyData.eqv z (ringD x)) = true :=
  List.any_eq_true.mpr ⟨_, List.mem_map.mpr ⟨j, List.mem_range.mpr hj, rfl⟩, by rw [ringD_eqv]; exact decide_eq_true h⟩
/-! ### the rings up to the first that stood before -/
/-- each ring at its address -/
def RingsAt (H : Hp) (r : Ring) (as : List Addr) : Prop := ∀ (j : Nat) (a : Addr), as[j]? = some a → H a = some (.lst (rv (ringAfter r j)))
theorem RingsAt.same {H H' : Hp} {r : Ring} {as : List Addr} (h : RingsAt H r as) (s : Same H H') : RingsAt H' r as := fun j a e => s _ _ (h j a e)
theorem rings_dp {K : PySem.W.Frag} {H : Hp} {r : Ring} {as : List Addr} (h : RingsAt H r as) : DpAll K H (as.map V.ref) (ringsD r as.length) := by
  refine dp_all _ _ (by rw [List.length_map, ringsD_len]) fun j x d h1 h2 => ?_
  have hj : j < as.length := by
    have := (List.getElem?_eq_some_iff.mp h1).1
    rw [List.length_map] at this
    exact this
  rw [ringsD_get hj] at h2
  obtain rfl := Option.some.inj h2
  rw [List.getElem?_map, List.getElem?_eq_getElem hj] at h1
  obtain rfl := Option.some.inj h1
  exact ring_dp (SqL.of (h j _ (List.getElem?_eq_getElem hj)))
theorem rv_refs {r : Ring} {as : List Addr} (h : 0 < r.length) : rv r ≠ as.map V.ref := by
  cases r with
  | nil => exact absurd h (Nat.lt_irrefl _)
  | cons x r =>
    cases as with
    | nil => intro z; cases z
    | cons y as =>
      intro z
      have e : V.int ((x : Nat) : Int) = V.ref y := (List.cons.inj z).1
      cases e
/-- ring k is the first that stood before, as ring i -/
structure Again (r : Ring) (i k : Nat) : Prop where
  lt : i < k
  le : k ≤ 24
  eq : ringAfter r i = ringAfter r k
  first : ∀ k' i', k' < k → i' < k' → ringAfter r i' ≠ ringAfter r k'
theorem Again.all {r : Ring} {i k : Nat} (g : Again r i k) : ∀ j, ∃ j', j' < k ∧ j' ≤ j ∧ ringAfter r j = ringAfter r j' := by
  intro j
  induction j using Nat.strongRecOn with
  | _ j ih =>
    by_cases h : j < k
    · exact ⟨j, h, Nat.le_refl _, rfl⟩
    · have := g.lt
      obtain ⟨j', h1, h2, h3⟩ := ih (i + (j - k)) (by omega)
      refine ⟨j', h1, by omega, ?_⟩
      rw [← h3]
      have e1 : j = k + (j - k) := by omega
      conv => lhs; rw [e1]
      rw [after_add, after_add, g.eq]
theorem Again.cycle {r : Ring} {i k : Nat} (g : Again r i k) : Kv439.cycle r = (i, k - i) := cycle_of g.lt (by have := g.le; omega) g.eq g.first
theorem traj_first {p : Ring → Bool} {r : Ring} {n : Nat} (h : (trajectory r maxSteps).findIdx? p = some n) : p (ringAfter r n) = true ∧ ∀ j, j < n → p (ringAfter r j) = false := by
  rw [List.findIdx?_eq_some_iff_getElem] at h
  obtain ⟨hn, e1, e2⟩ := h
  have len : (trajectory r maxSteps).length = 61 := traj_len 60 r
  have get : ∀ j (hj : j < (trajectory r maxSteps).length), (trajectory r maxSteps)[j] = ringAfter r j := fun j hj => by
    have e := traj_get maxSteps j r (by show j ≤ 60; omega)
    rw [List.getElem?_eq_getElem hj] at e
    exact Option.some.inj e
  refine ⟨by rw [← get n hn]; exact e1, fun j hj => ?_⟩
  have := e2 j hj
  rw [get j (by omega)] at this
  exact Bool.eq_false_iff.mpr this
theorem traj_never {p : Ring → Bool} {r : Ring} (h : (trajectory r maxSteps).findIdx? p = none) (j : Nat) (hj : j ≤ 60) : p (ringAfter r j) = false := by
  rw [List.findIdx?_eq_none_iff] at h
  exact h _ (List.mem_of_getElem? (traj_get maxSteps j r hj))
theorem Again.none_of {p : Ring → Bool} {r : Ring} {i k : Nat} (g : Again r i k) (h : ∀ j, j < k → p (ringAfter r j) = false) : (trajectory r maxSteps).findIdx? p = none :=
  first_none fun j _ => by
    obtain ⟨j', h1, _, h3⟩ := g.all j
    rw [h3]
    exact h j' h1
theorem Again.low {p : Ring → Bool} {r : Ring} {i k n : Nat} (g : Again r i k) (h : (trajectory r maxSteps).findIdx? p = some n) : n < k := by
  obtain ⟨h1, h2⟩ := traj_first h
  obtain ⟨j', a, b, c⟩ := g.all n
  by_cases z : j' < n
  · have := h2 j' z
    rw [← c, h1] at this
    cases this
  · omega
theorem quiet_rep {r : Ring} : isQuiet r = true ↔ r = List.replicate r.length 0 := by
  unfold isQuiet
  rw [List.all_eq_true]
  constructor
  · intro h
    exact List.eq_replicate_iff.mpr ⟨rfl, fun x hx => eq_of_beq (h x hx)⟩
  · intro h x hx
    rw [h] at hx
    rw [(List.mem_replicate.mp hx).2]
    rfl
theorem after_quiet {r : Ring} {j : Nat} : isQuiet (ringAfter r j) = decide (ringAfter r j = List.replicate r.length 0) := by
  have h := quiet_rep (r := ringAfter r j)
  rw [after_len] at h
  by_cases z : ringAfter r j = List.replicate r.length 0
  · rw [h.mpr z, decide_eq_true z]
  · rw [decide_eq_false z]
    exact Bool.eq_false_iff.mpr fun y => z (h.mp y)
/-! ### promises -/
def spRings (K : PySem.W.Frag) : Sp := fun vs H Q _ => ∃ (a : Addr) (r : Ring), vs = [.ref a] ∧ SqL K H a (rv r) ∧ Fine r ∧
  ∀ (H' : Hp) (p : Addr) (as : List Addr) (i : Nat), Same H H' → H p = none → H' p = some (.lst (as.map V.ref)) → RingsAt H' r as → Again r i as.length → Q (.ref p) H'
def spQuiet (K : PySem.W.Frag) (A : Ad) : Sp := fun vs H Q E => ∃ (a : Addr) (r : Ring), vs = [.ref a] ∧ SqL K H a (rv r) ∧ Fine r ∧
  (stepsUntilQuiet r = none → ∀ H', Same H H' → Err E A.c_NeverHappens (-33) H') ∧
  (∀ n, stepsUntilQuiet r = some n → ∀ H', Same H H' → Q (.int ((n : Nat) : Int)) H')
def spStands (K : PySem.W.Frag) (A : Ad) : Sp := fun vs H Q E => ∃ (a : Addr) (r : Ring) (i : Nat), vs = [.ref a, .int i] ∧ SqL K H a (rv r) ∧ Fine r ∧ i < r.length ∧
  ((trajectory r maxSteps).findIdx? (fun x => stateAt x i == 1) = none → ∀ H', Same H H' → Err E A.c_NeverHappens (-33) H') ∧
  (∀ n, (trajectory r maxSteps).findIdx? (fun x => stateAt x i == 1) = some n → ∀ H', Same H H' → Q (.int ((n : Nat) : Int)) H')
def spCycle (K : PySem.W.Frag) : Sp := fun vs H Q _ => ∃ (a : Addr) (r : Ring), vs = [.ref a] ∧ SqL K H a (rv r) ∧ Fine r ∧
  ∀ (H' : Hp) (p : Addr), Same H H' → H p = none → H' p = some (.lst [.int (((Kv439.cycle r).1 : Nat) : Int), .int (((Kv439.cycle r).2 : Nat) : Int)]) → Q (.ref p) H'
def spMost (K : PySem.W.Frag) : Sp := fun vs H Q _ => ∃ (a : Addr) (r : Ring), vs = [.ref a] ∧ SqL K H a (rv r) ∧ Fine r ∧
  ∀ (H' : Hp), Same H H' → Q (.int ((((trajectory r maxSteps).map standing).foldl max 0 : Nat) : Int)) H'
/-- the rings so far, at each turn -/
structure PastAt (H : Hp) (a pl : Addr) (r : Ring) (j : Nat) (σ : L2.St) (H' : Hp) : Prop where
  ex : ∃ p as, σ = [some (.ref a), some (.ref pl), some (.ref p)] ∧ as.length = j ∧ H' pl = some (.lst (as.map V.ref)) ∧ RingsAt H' r as ∧ H' p = some (.lst (rv (ringAfter r j)))
  same : Same H H'
section
variable {P : Program} {w : World} {K : PySem.W.Frag} {mg : Str → Option Value} {base : Heap} {A : Ad}
theorem ok_rings_until_repeat (T : Txt K mg A) : Good P w K mg base CX0 4 A.f_rings_until_repeat ["states"] (spRings K) := by
  obtain ⟨fd, F, b⟩ := T.F_rings_until_repeat
  refine ⟨⟨fd, ?_, b⟩, F.kp⟩
  refine F.ok sc_rings_until_repeat (fun vs H Q E h => ?_) (fun cdv Ar outer s H vs Q E hr h => ?_)
  · obtain ⟨a, r, rfl, _⟩ := h
    rfl
  have nd := sc_rings_until_repeat.nd
  have G_after_step := ok_after_step (P := P) (w := w) (base := base) T
  refine ⟨_, (pss_cons (ps_set (i := 1) nd rfl (Or.inl rfl) (pe_lst pa_nil))
    (pss_cons (ps_set (i := 2) nd rfl (Or.inl rfl) (pe_callTy call_list_of (by rfl) T.n_list (by decide +kernel) (pa_cons (pv 0) pa_nil)))
    (pss_cons (ps_while PassesOwn.never (pt_cmpR (op_notInD (u65 hr)) (pv 2) (pv 1) (by rfl))
    (pss_cons (ps_expr (pe_bm PySem.F.plainAttrs_list PySem.F.slot_list_append PySem.F.type_list_append mt_append (pv 1) (pa_cons (pv 2) pa_nil)))
    (pss_one (ps_set (i := 2) nd rfl (Or.inl rfl) (pe_callG G_after_step (hr.mono (by decide)) T.g_after_step pass0 (pa_cons (pv 2) pa_nil))))))
    (pss_one (ps_ret (pv 1)))))), ?_⟩
  obtain ⟨a, r, rfl, hS, hf, q⟩ := h
  obtain ⟨i, k, hik, hk24, he, hfirst⟩ := first_again hf
  have h0 : 0 < r.length := Nat.lt_of_lt_of_le (by decide) hf.lo
  refine ⟨by show 0 ≤ sizeLine; decide, fun pl hpl => ?_⟩
  have s1 : Same H (upd H pl (.lst [])) := fun b o e => (upd_ne (ne_of_none e hpl)).trans e
  refine ⟨_, rfl, a, _, rfl, .inl (s1.seq hS), fun c hc => ?_⟩
  have cp : c ≠ pl := fun z => by
    rw [z, upd_same] at hc
    cases hc
  refine ⟨fun m σ H' => ∃ j, m = k - j ∧ j ≤ k ∧ PastAt H a pl r j σ H',
    ⟨_, 0, rfl, Nat.zero_le _, ⟨c, [], rfl, rfl, (upd_ne (Ne.symm cp)).trans upd_same, fun j a e => by simp at e, upd_same⟩, s1.trans fun b o e => (upd_ne (ne_of_none e hc)).trans e⟩, ?_⟩
  rintro m σ H' ⟨j, rfl, le, ⟨p, as, rfl, len, hq, R, hp⟩, same⟩
  refine ⟨_, rfl, _, rfl, ringD (ringAfter r j), ringsD r as.length, ring_dp (SqL.of hp), .lst (SqL.of hq) (rings_dp R), ringD_shaped _, ringsD_shaped _ _, _, rfl, ?_⟩
  rw [len]
  refine ite2 (fun c => ?_) (fun c => ?_)
  · have lt : j < k := by
      by_cases z : j < k
      · exact z
      · obtain rfl : j = k := by omega
        rw [any_yes hik he] at c
        cases c
    refine ⟨fun σ' H2 => PastAt H a pl r (j + 1) σ' H2, fun σ' H2 g => ⟨_, by omega, j + 1, rfl, lt, g⟩, ?_⟩
    have pp : p ≠ pl := fun z => by
      rw [z, hq] at hp
      have e : as.map V.ref = rv (ringAfter r j) := by injection hp with e; injection e
      exact rv_refs (by rw [after_len]; exact h0) e.symm
    refine ⟨_, rfl, .inl ⟨rfl, _, SqL.of hq⟩, _, rfl, pl, _, _, rfl, rfl, hq, ?_, ?_⟩
    · rw [List.length_map, len]
      exact Nat.lt_of_lt_of_le (show j < 24 by omega) (by decide)
    refine ⟨_, rfl, p, _, rfl, SqL.of ((upd_ne pp).trans hp), hf.after j, fun H2 p2 s2 n2 e2 => ?_⟩
    refine ⟨⟨p2, as ++ [p], rfl, ?_, ?_, fun j' a' e => ?_, ?_⟩, fun b o e => s2 _ _ ((upd_ne (ne_of_none e hpl)).trans (same _ _ e))⟩
    · rw [List.length_append, len]
      rfl
    · refine (s2 _ _ upd_same).trans (congrArg (fun z => some (HO.lst z)) ?_)
      rw [List.map_append]
      rfl
    · by_cases z : j' < as.length
      · rw [List.getElem?_append_left z] at e
        have e3 := R j' a' e
        refine s2 _ _ ((upd_ne fun y => ?_).trans e3)
        rw [y, hq] at e3
        have e : as.map V.ref = rv (ringAfter r j') := by injection e3 with e; injection e
        exact rv_refs (by rw [after_len]; exact h0) e.symm
      · rw [List.getElem?_append_right (by omega)] at e
        have e4 : j' - as.length = 0 := by
          cases y : j' - as.length with
          | zero => rfl
          | succ n =>
            rw [y] at e
            simp at e
        rw [e4] at e
        obtain rfl : p = a' := by simpa using e
        obtain rfl : j' = j := by omega
        exact s2 _ _ ((upd_ne pp).trans hp)
    · rw [e2, after_more]
  · have jk : j = k := by
      by_cases z : j < k
      · exfalso
        rw [any_no (fun j' hj' => hfirst j j' z hj')] at c
        exact c rfl
      · omega
    rw [jk] at len
    have g : Again r i as.length := by
      rw [len]
      exact ⟨hik, hk24, he, hfirst⟩
    exact ⟨_, rfl, q H' pl as i same hpl hq R g⟩
theorem ok_steps_to_quiet (T : Txt K mg A) : Good P w K mg base (L2.CX P w) 5 A.f_steps_to_quiet ["states"] (spQuiet K A) := by
  obtain ⟨fd, F, b⟩ := T.F_steps_to_quiet
  refine ⟨⟨fd, ?_, b⟩, F.kp⟩
  refine F.okX sc_steps_to_quiet (fun vs H Q E h => ?_) (fun cdv Ar outer s H vs Q E hr h => ?_)
  · obtain ⟨a, r, rfl, _⟩ := h
    rfl
  have nd := sc_steps_to_quiet.nd
  have G_rings_until_repeat := ok_rings_until_repeat (P := P) (w := w) (base := base) T
  have G_NeverHappens_init := ok_NeverHappens_init (P := P) (w := w) (base := base) T
  refine ⟨_, (pss_cons (ps_set (i := 1) nd rfl (Or.inl rfl) (pe_op op_rep (pe_lst (pa_cons (pe_gi T.v_SEATED) pa_nil)) (pe_callB call_len_seq (by rfl) T.n_len PySem.boot_len (pa_cons (pv 0) pa_nil))))
    (pss_cons (ps_set (i := 2) nd rfl (Or.inl rfl) (pe_callG G_rings_until_repeat (hr.mono (by decide)) T.g_rings_until_repeat pass0 (pa_cons (pv 0) pa_nil)))
    (pss_cons (ps_if (pt_cmpR (op_notInD (u65 hr)) (pv 1) (pv 2) (by rfl)) (pss_one (ps_raise rfl (takes_of rfl rfl rfl rfl) (pmk_errG T.e_NeverHappens T.i_NeverHappens T.t_NeverHappens G_NeverHappens_init (hr.mono (by decide)) pass0 T.g_NeverHappens))) pss_nil)
    (pss_one (ps_ret (pe_bm PySem.F.plainAttrs_list PySem.F.slot_list_index PySem.F.type_list_index (mt_indexD (u65 hr)) (pv 2) (pa_cons (pv 1) pa_nil))))))), ?_⟩
  obtain ⟨a, r, rfl, hS, hf, kE, kQ⟩ := h
  have hi := hf.hi
  refine ⟨by show 1 ≤ sizeLine; decide, fun l0 h0 => ?_⟩
  have s0 : Same H (upd H l0 (.lst [.int 0])) := fun b o e => (upd_ne (ne_of_none e h0)).trans e
  refine ⟨_, rfl, a, _, rfl, .inl (s0.seq hS), l0, _, _, rfl, rfl, upd_same, ?_, ?_, ?_, fun c np => ?_⟩
  · rw [rv_len]; omega
  · rw [rv_len]; omega
  · rw [rv_len]
    have := small12 hi
    show 1 * ((r.length : Int)).toNat ≤ sizeLine
    rw [Int.toNat_natCast]
    omega
  have ec : (List.replicate (((rv r).length : Int)).toNat [V.int 0]).flatten = rv (List.replicate r.length 0) := by
    rw [rv_len, Int.toNat_natCast]
    unfold rv
    rw [List.map_replicate]
    generalize r.length = n
    induction n with
    | zero => rfl
    | succ n ih =>
      rw [List.replicate_succ, List.flatten_cons, ih, List.replicate_succ]
      rfl
  have s1 : Same H (upd (upd H l0 (.lst [.int 0])) c (.lst (rv (List.replicate r.length 0)))) := s0.trans fun b o e => (upd_ne (ne_of_none e np)).trans e
  show _
  rw [ec]
  refine ⟨_, rfl, a, r, rfl, s1.seq hS, hf, fun H2 pl as i s2 n2 e2 R g => ?_⟩
  have s3 := s1.trans s2
  have hc : H2 c = some (.lst (rv (List.replicate r.length 0))) := s2 _ _ upd_same
  refine ⟨_, rfl, _, rfl, ringD (List.replicate r.length 0), ringsD r as.length, ring_dp (SqL.of hc), .lst (SqL.of e2) (rings_dp R), ringD_shaped _, ringsD_shaped _ _, _, rfl, ?_⟩
  refine ite2 (fun cc => ?_) (fun cc => ?_)
  · refine raise_code T.e_NeverHappens (kE ?_ H2 s3)
    refine g.none_of fun j hj => ?_
    rw [after_quiet]
    refine decide_eq_false fun z => ?_
    rw [any_yes hj z] at cc
    cases cc
  · cases en : stepsUntilQuiet r with
    | none =>
      exfalso
      have nv := traj_never en
      refine cc ?_
      rw [any_no fun j hj z => ?_]
      · rfl
      · have := nv j (by have := g.le; omega)
        rw [after_quiet, decide_eq_true z] at this
        cases this
    | some n =>
      obtain ⟨h1, h2⟩ := traj_first en
      have hn := g.low en
      rw [after_quiet] at h1
      refine ⟨_, rfl, .inl ⟨rfl, _, SqL.of e2⟩, _, rfl, pl, _, ringD (List.replicate r.length 0), ringsD r as.length, n, ringD (ringAfter r n), rfl, rfl, .lst (SqL.of e2) (rings_dp R), ring_dp (SqL.of hc), ringsD_shaped _ _, ringD_shaped _,
        ringsD_get hn, ?_, fun m z' hm e => ?_, kQ n en H2 s3⟩
      · rw [ringD_eqv]
        exact h1
      · rw [ringsD_get (show m < as.length by omega)] at e
        obtain rfl := Option.some.inj e
        have := h2 m hm
        rw [after_quiet] at this
        rw [ringD_eqv]
        exact this
theorem ok_cycle_of (T : Txt K mg A) : Good P w K mg base CX0 5 A.f_cycle_of ["states"] (spCycle K) := by
  obtain ⟨fd, F, b⟩ := T.F_cycle_of
  refine ⟨⟨fd, ?_, b⟩, F.kp⟩
  refine F.ok sc_cycle_of (fun vs H Q E h => ?_) (fun cdv Ar outer s H vs Q E hr h => ?_)
  · obtain ⟨a, r, rfl, _⟩ := h
    rfl
  have nd := sc_cycle_of.nd
  have G_rings_until_repeat := ok_rings_until_repeat (P := P) (w := w) (base := base) T
  have G_after_step := ok_after_step (P := P) (w := w) (base := base) T
  refine ⟨_, (pss_cons (ps_set (i := 1) nd rfl (Or.inl rfl) (pe_callG G_rings_until_repeat (hr.mono (by decide)) T.g_rings_until_repeat pass0 (pa_cons (pv 0) pa_nil)))
    (pss_cons (ps_set (i := 2) nd rfl (Or.inl rfl) (pe_bm PySem.F.plainAttrs_list PySem.F.slot_list_index PySem.F.type_list_index (mt_indexD (u65 hr)) (pv 1) (pa_cons (pe_callG G_after_step (hr.mono (by decide)) T.g_after_step pass0 (pa_cons (pe_ix ix_list (pv 1) (pe_un un_neg pe_int) (fun _ _ => rfl)) pa_nil)) pa_nil)))
    (pss_one (ps_ret (pe_lst (pa_cons (pv 2) (pa_cons (pe_op op_sub (pe_callB call_len_seq (by rfl) T.n_len PySem.boot_len (pa_cons (pv 1) pa_nil)) (pv 2)) pa_nil))))))), ?_⟩
  obtain ⟨a, r, rfl, hS, hf, q⟩ := h
  refine ⟨_, rfl, a, r, rfl, hS, hf, fun H2 pl as i s2 n2 e2 R g => ?_⟩
  have ik := g.lt
  obtain ⟨k, ek⟩ : ∃ k, as.length = k + 1 := ⟨as.length - 1, by omega⟩
  have lk : k < as.length := by omega
  have hl : H2 as[k] = some (.lst (rv (ringAfter r k))) := R k _ (List.getElem?_eq_getElem lk)
  have at_ : atI (as.map V.ref) (-1) = some (V.ref as[k]) := by
    unfold atI ixN
    rw [List.length_map, if_neg (by decide), if_pos (by omega)]
    have e : ((-1 : Int) + (as.length : Int)).toNat = k := by omega
    show (as.map V.ref)[((-1 : Int) + (as.length : Int)).toNat]? = _
    rw [e, List.getElem?_map, List.getElem?_eq_getElem lk]
    rfl
  refine ⟨_, rfl, .inl ⟨rfl, _, SqL.of e2⟩, _, rfl, _, rfl, pl, _, _, _, rfl, rfl, SqL.of e2, at_, _, _, rfl, SqL.of hl, hf.after k, fun H3 p3 s3 n3 e3 => ?_⟩
  rw [after_more, ← ek, ← g.eq] at e3
  have e2' := s3 _ _ e2
  refine ⟨pl, _, ringD (ringAfter r i), ringsD r as.length, i, ringD (ringAfter r i), rfl, rfl, .lst (SqL.of e2') (rings_dp (R.same s3)), ring_dp (SqL.of e3), ringsD_shaped _ _, ringD_shaped _,
    ringsD_get ik, ?_, fun m z' hm e => ?_, ?_⟩
  · rw [ringD_eqv]
    exact decide_eq_true rfl
  · rw [ringsD_get (show m < as.length by omega)] at e
    obtain rfl := Option.some.inj e
    rw [ringD_eqv]
    exact decide_eq_false (g.first i m ik hm)
  refine ⟨_, rfl, _, rfl, pl, _, rfl, .inl (SqL.of e2'), _, rfl, _, _, rfl, rfl, by show 2 ≤ sizeLine; decide, fun p np => ?_⟩
  refine q _ p (fun b o e => (upd_ne (ne_of_none (s3 _ _ (s2 _ _ e)) np)).trans (s3 _ _ (s2 _ _ e))) (s2.free (s3.free np)) ?_
  rw [upd_same, g.cycle, List.length_map]
  have e : ((as.length : Nat) : Int) - (i : Int) = ((as.length - i : Nat) : Int) := by omega
  exact congrArg (fun z => some (HO.lst [V.int (i : Int), V.int z])) e
theorem ok_steps_to_standing (T : Txt K mg A) : Good P w K mg base (L2.CX P w) 5 A.f_steps_to_standing ["states", "i"] (spStands K A) := by
  obtain ⟨fd, F, b⟩ := T.F_steps_to_standing
  refine ⟨⟨fd, ?_, b⟩, F.kp⟩
  refine F.okX sc_steps_to_standing (fun vs H Q E h => ?_) (fun cdv Ar outer s H vs Q E hr h => ?_)
  · obtain ⟨a, r, i, rfl, _⟩ := h
    rfl
  have nd := sc_steps_to_standing.nd
  have G_rings_until_repeat := ok_rings_until_repeat (P := P) (w := w) (base := base) T
  have G_NeverHappens_init := ok_NeverHappens_init (P := P) (w := w) (base := base) T
  refine ⟨_, (pss_cons (ps_for (passes_of rfl) rfl (pi_enum (by rfl) T.n_enumerate (pa_cons (pe_callG G_rings_until_repeat (hr.mono (by decide)) T.g_rings_until_repeat pass0 (pa_cons (pv 0) pa_nil)) pa_nil)) (pg_tup rfl (pgs_cons (pg_name (i := 2) nd rfl (Or.inl rfl)) (pgs_cons (pg_name (i := 3) nd rfl (Or.inl rfl)) pgs_nil)))
    (pss_one (ps_if (pt_cmpR op_eq (pe_ix ix_list (pv 3) (pv 1) (fun _ _ => rfl)) (pe_gi T.v_STANDING) (nomark _)) (pss_one (ps_ret (pv 2))) pss_nil)))
    (pss_one (ps_raise rfl (takes_of rfl rfl rfl rfl) (pmk_errG T.e_NeverHappens T.i_NeverHappens T.t_NeverHappens G_NeverHappens_init (hr.mono (by decide)) pass0 T.g_NeverHappens)))), ?_⟩
  obtain ⟨a, r, x, rfl, hS, hf, hx, kE, kQ⟩ := h
  refine ⟨_, rfl, a, r, rfl, hS, hf, fun H2 pl as i s2 n2 e2 R g => ?_⟩
  refine ⟨pl, _, rfl, SqL.of e2, for_it walk_enum (fun j σ H' => ∃ v2 v3 : Option V, σ = [some (.ref a), some (.int (x : Int)), v2, v3] ∧ Same H2 H' ∧ ∀ m, m < j → stateAt (ringAfter r m) x ≠ 1)
    ⟨none, none, rfl, Same.refl _, fun m hm => absurd hm (Nat.not_lt_zero _)⟩ (fun j σ H' _ ⟨_, _, _, s3, _⟩ => SqL.of (s3 _ _ e2)) ?_ ?_⟩
  · rintro j y σ H' H3 hj ⟨v2, v3, rfl, s3, no⟩ ⟨t, y1, y2, rfl, nt, rfl, h1, h2⟩
    rw [List.length_map] at hj
    obtain rfl := Option.some.inj h1
    have h2 : (as.map V.ref)[j]? = some y2 := h2
    rw [List.getElem?_map, List.getElem?_eq_getElem hj] at h2
    obtain rfl := Option.some.inj h2
    have s4 : Same H' (upd H' t (.tup [.int ((j : Nat) : Int), .ref as[j]])) := fun b o e => (upd_ne (ne_of_none e nt)).trans e
    have ha := s4 _ _ (s3 _ _ (R j _ (List.getElem?_eq_getElem hj)))
    have hx' : x < (ringAfter r j).length := by rw [after_len]; exact hx
    have z := rv_at hx'
    rw [← state_lt hx'] at z
    refine ⟨t, _, rfl, .inl (.inl upd_same), rfl, _, _, rfl, _, _, rfl, rfl, ?_⟩
    refine ⟨_, rfl, _, rfl, as[j], _, _, _, rfl, rfl, SqL.of ha, z, rfl, _, rfl, ?_⟩
    refine ite2 (fun c => ?_) (fun c => ?_)
    · have c' := of_decide_eq_true ((vint_eq (b := 1)).symm.trans c)
      refine ⟨_, rfl, kQ j (first_some (by have := g.le; show j ≤ 60; omega) ?_ fun m hm => ?_) _ (s2.trans (s3.trans s4))⟩
      · show (stateAt (ringAfter r j) x == 1) = true
        rw [c']
        rfl
      · show (stateAt (ringAfter r m) x == 1) = false
        exact beq_eq_false_iff_ne.mpr (no m hm)
    · have c' : ¬ stateAt (ringAfter r j) x = 1 := fun z => c ((vint_eq (b := 1)).trans (decide_eq_true z))
      refine ⟨_, _, rfl, s3.trans s4, fun m hm => ?_⟩
      by_cases e : m = j
      · rw [e]
        exact c'
      · exact no m (by omega)
  · rintro σ H' ⟨v2, v3, rfl, s3, no⟩
    rw [List.length_map] at no
    refine raise_code (σ := [some (.ref a), some (.int (x : Int)), v2, v3]) T.e_NeverHappens (kE (g.none_of fun j hj => ?_) H' (s2.trans s3))
    show (stateAt (ringAfter r j) x == 1) = false
    exact beq_eq_false_iff_ne.mpr (no j hj)
def most (r : Ring) : Nat → Nat
  | 0 => standing r
  | n + 1 => max (most r n) (standing (ringAfter r (n + 1)))
theorem most_fold (r : Ring) : ∀ n, (((List.range (n + 1)).map (ringAfter r)).map standing).foldl max 0 = most r n
  | 0 => by
    show max 0 (standing (ringAfter r 0)) = standing r
    rw [Nat.zero_max]
    rfl
  | n + 1 => by
    rw [List.range_succ, List.map_append, List.map_append, List.foldl_append, most_fold r n]
    rfl
theorem ok_most_standing (T : Txt K mg A) : Good P w K mg base CX0 4 A.f_most_standing ["states"] (spMost K) := by
  obtain ⟨fd, F, b⟩ := T.F_most_standing
  refine ⟨⟨fd, ?_, b⟩, F.kp⟩
  refine F.ok sc_most_standing (fun vs H Q E h => ?_) (fun cdv Ar outer s H vs Q E hr h => ?_)
  · obtain ⟨a, r, rfl, _⟩ := h
    rfl
  have nd := sc_most_standing.nd
  have G_standing_in := ok_standing_in (P := P) (w := w) (base := base) T
  have G_after_step := ok_after_step (P := P) (w := w) (base := base) T
  refine ⟨_, (pss_cons (ps_set (i := 1) nd rfl (Or.inl rfl) (pv 0))
    (pss_cons (ps_set (i := 2) nd rfl (Or.inl rfl) (pe_callG G_standing_in (hr.mono (by decide)) T.g_standing_in pass0 (pa_cons (pv 1) pa_nil)))
    (pss_cons (ps_for PassesOwn.never rfl (pi_range1 (by rfl) T.n_range (pa_cons (pe_gi T.v_MOST_STEPS_AHEAD) pa_nil)) (pg_name (i := 3) nd rfl (Or.inl rfl))
    (pss_cons (ps_set (i := 1) nd rfl (Or.inl rfl) (pe_callG G_after_step (hr.mono (by decide)) T.g_after_step pass0 (pa_cons (pv 1) pa_nil)))
    (pss_one (ps_set (i := 2) nd rfl (Or.inl rfl) (pe_callB (call_max2 rfl) (by rfl) T.n_max (by decide +kernel) (pa_cons (pv 2) (pa_cons (pe_callG G_standing_in (hr.mono (by decide)) T.g_standing_in pass0 (pa_cons (pv 1) pa_nil)) pa_nil)))))))
    (pss_one (ps_ret (pv 2)))))), ?_⟩
  obtain ⟨a, r, rfl, hS, hf, q⟩ := h
  refine ⟨_, rfl, _, rfl, a, r, rfl, hS, ?_⟩
  refine ⟨60, rfl, by decide, by decide, for_range (lo := 0) (n := 60) (fun i σ H' => ∃ (p : Addr) (v : Option V), σ = [some (.ref a), some (.ref p), some (.int ((most r i : Nat) : Int)), v] ∧ Same H H' ∧ SqL K H' p (rv (ringAfter r i)))
    ⟨a, none, rfl, Same.refl _, hS⟩ ?_ ?_⟩
  · rintro i σ H' hi ⟨p, v, rfl, s1, hp⟩
    refine ⟨_, rfl, p, _, rfl, hp, hf.after i, fun H2 p2 s2 n2 e2 => ?_⟩
    rw [after_more] at e2
    refine ⟨_, rfl, _, rfl, p2, _, rfl, SqL.of e2, _, _, rfl, ?_⟩
    refine ⟨p2, some (.int ((0 : Int) + (i : Int))), ?_, s1.trans s2, SqL.of e2⟩
    have e : (if ((standing (ringAfter r (i + 1)) : Nat) : Int) > ((most r i : Nat) : Int) then ((standing (ringAfter r (i + 1)) : Nat) : Int) else ((most r i : Nat) : Int)) = ((most r (i + 1) : Nat) : Int) := by
      show _ = ((max (most r i) (standing (ringAfter r (i + 1))) : Nat) : Int)
      split <;> omega
    rw [← e]
    rfl
  · rintro σ H' ⟨p, v, rfl, s1, hp⟩
    refine ⟨_, rfl, ?_⟩
    have e := most_fold r 60
    rw [← traj_map 60 r] at e
    have z := q H' s1
    rw [show ((trajectory r maxSteps).map standing).foldl max 0 = most r 60 from e] at z
    exact z
end
end Sw

set_option Elab.async false
set_option linter.all false
set_option maxRecDepth 100000
set_option maxHeartbeats 4000000
namespace Sw
open PySem PySem.Spec PyProof.Rows L2
open Kv439 (Ring stateAt previousState nextRing ringAfter rotated standing phaseDifference windingNumber forwardWaves backwardWaves)
def spPhase : Sp := fun vs H Q _ => ∃ (s t : Nat), vs = [.int (s : Int), .int (t : Int)] ∧ Q (.int (phaseDifference s t)) H
def spWinding (K : PySem.W.Frag) : Sp := fun vs H Q _ => ∃ (a : Addr) (r : Ring), vs = [.ref a] ∧ SqL K H a (rv r) ∧ Fine r ∧
  ∀ (H' : Hp), Same H H' → Q (.int (windingNumber r)) H'
def spIsWave (K : PySem.W.Frag) : Sp := fun vs H Q _ => ∃ (a : Addr) (r : Ring) (i j k : Nat), vs = [.ref a, .int (i : Int), .int (j : Int), .int (k : Int)] ∧ SqL K H a (rv r) ∧
  i < r.length ∧ j < r.length ∧ k < r.length ∧ Q (.bl (stateAt r i == 1 && (stateAt r j == 2 && stateAt r k == 0))) H
def fore (r : Ring) (i : Nat) : Bool := stateAt r i == 1 && stateAt r (i + 1) == 0 && previousState r i == 2
def back (r : Ring) (i : Nat) : Bool := stateAt r i == 1 && previousState r i == 0 && stateAt r (i + 1) == 2
def spIsFore (K : PySem.W.Frag) (f : Ring → Nat → Bool) : Sp := fun vs H Q _ => ∃ (a : Addr) (r : Ring) (i : Nat), vs = [.ref a, .int (i : Int)] ∧ SqL K H a (rv r) ∧ i < r.length ∧ Q (.bl (f r i)) H
def spWaves (K : PySem.W.Frag) (f : Ring → List Nat) : Sp := fun vs H Q _ => ∃ (a : Addr) (r : Ring), vs = [.ref a] ∧ SqL K H a (rv r) ∧ Fine r ∧
  ∀ (H' : Hp) (p : Addr), Same H H' → H p = none → H' p = some (.lst (rv (f r))) → Q (.ref p) H'
theorem nmod {s : Nat} : (((s : Int) + 1) % 3) = (((s + 1) % 3 : Nat) : Int) := by omega
theorem mod_dec {s t : Nat} : decide (V.int (t : Int) = V.int (((s : Int) + 1) % 3)) = decide (t = (s + 1) % 3) := by rw [nmod, vint_eq]
theorem st_mod {r : Ring} {i : Nat} : stateAt r (i % r.length) = stateAt r i := by
  unfold stateAt
  rw [Nat.mod_mod]
theorem beq_dec {a b : Nat} : decide (V.int (a : Int) = V.int (b : Int)) = (a == b) := by
  rw [vint_eq]
  by_cases h : a = b
  · rw [h]; simp
  · rw [decide_eq_false h, beq_eq_false_iff_ne.mpr h]
/-- a comprehension over range(n) that makes the numbers f 0, f 1, .. -/
def MadeI (H : Hp) (D : Addr) (f : Nat → Int) (i : Nat) (H' : Hp) : Prop := Same H H' ∧ H' D = some (.lst (((List.range i).map f).map V.int))
/-- .. those of the first numbers that p holds of -/
def Kept' (H : Hp) (D : Addr) (p : Nat → Bool) (i : Nat) (H' : Hp) : Prop := Same H H' ∧ H' D = some (.lst (rv ((List.range i).filter p)))
section
variable {P : Program} {w : World} {K : PySem.W.Frag} {mg : Str → Option Value} {base : Heap} {A : Ad}
theorem ok_phase_difference (T : Txt K mg A) : Good P w K mg base CX0 1 A.f_phase_difference ["before", "after"] spPhase := by
  obtain ⟨fd, F, b⟩ := T.F_phase_difference
  refine ⟨⟨fd, ?_, b⟩, F.kp⟩
  refine F.ok sc_phase_difference (fun vs H Q E h => ?_) (fun cdv Ar outer s H vs Q E hr h => ?_)
  · obtain ⟨s, t, rfl, _⟩ := h
    rfl
  have nd := sc_phase_difference.nd
  refine ⟨_, (pss_cons (ps_if (pt_cmpR op_eq (pv 1) (pe_op op_mod (pe_op op_add (pv 0) pe_int) pe_int) (nomark _)) (pss_one (ps_ret pe_int)) pss_nil)
    (pss_cons (ps_if (pt_cmpR op_eq (pv 0) (pe_op op_mod (pe_op op_add (pv 1) pe_int) pe_int) (nomark _)) (pss_one (ps_ret (pe_un un_neg pe_int))) pss_nil)
    (pss_one (ps_ret pe_int)))), ?_⟩
  obtain ⟨s, t, rfl, q⟩ := h
  unfold phaseDifference at q
  refine ⟨_, rfl, _, rfl, _, _, rfl, rfl, _, _, rfl, rfl, by show (0 : Int) < 3; decide, rfl, _, rfl, ?_⟩
  refine ite2 (fun c => ?_) (fun c => ?_)
  · rw [if_pos (of_decide_eq_true (mod_dec.symm.trans c))] at q
    exact q
  rw [if_neg fun z => c (mod_dec.trans (decide_eq_true z))] at q
  refine ⟨_, rfl, _, rfl, _, _, rfl, rfl, _, _, rfl, rfl, by show (0 : Int) < 3; decide, rfl, _, rfl, ?_⟩
  refine ite2 (fun c => ?_) (fun c => ?_)
  · rw [if_pos (of_decide_eq_true (mod_dec.symm.trans c))] at q
    exact ⟨_, rfl, q⟩
  rw [if_neg fun z => c (mod_dec.trans (decide_eq_true z))] at q
  exact q
theorem ok_winding_of (T : Txt K mg A) : Good P w K mg base CX0 2 A.f_winding_of ["states"] (spWinding K) := by
  obtain ⟨fd, F, b⟩ := T.F_winding_of
  refine ⟨⟨fd, ?_, b⟩, F.kp⟩
  refine F.ok sc_winding_of (fun vs H Q E h => ?_) (fun cdv Ar outer s H vs Q E hr h => ?_)
  · obtain ⟨a, r, rfl, _⟩ := h
    rfl
  have nd := sc_winding_of.nd
  have G_next_section := ok_next_section (P := P) (w := w) (base := base) T
  have G_phase_difference := ok_phase_difference (P := P) (w := w) (base := base) T
  refine ⟨_, (pss_cons (ps_setLc (i := 1) (own := [("i", 2)]) (g := gName 2) (tt := tYes) rfl nd rfl rfl (sw_true rfl rfl rfl (by decide +kernel)) (pi_range1 (by rfl) T.n_range (pa_cons (pe_callB call_len_seq (by rfl) T.n_len PySem.boot_len (pa_cons (pv 0) pa_nil)) pa_nil)) (blkOk_by (N := ["states", "differences", "i"]) (sc := defScope s_winding_of) (by decide +kernel))
      (fun _ _ _ _ _ => pg_name (i := 2) nd rfl (Or.inl rfl)) (fun _ _ _ _ _ => pts_nil) (fun _ _ _ _ _ => (pe_callG G_phase_difference (hr.mono (by decide)) T.g_phase_difference pass0 (pa_cons (pe_ix (ixl_K (K := K) rfl) (pv 0) (pv 2) (fun _ _ => rfl)) (pa_cons (pe_ix (ixl_K (K := K) rfl) (pv 0) (pe_callG G_next_section (hr.mono (by decide)) T.g_next_section pass0 (pa_cons (pv 0) (pa_cons (pv 2) pa_nil))) (fun _ _ => rfl)) pa_nil)))))
    (pss_one (ps_ret (pe_op op_fdiv (pe_callB (cr_sum rfl) (by rfl) T.n_sum (by decide +kernel) (pa_cons (pv 1) pa_nil)) pe_int)))), ?_⟩
  obtain ⟨a, r, rfl, hS, hf, q⟩ := h
  have hi := hf.hi
  have h0 : 0 < r.length := Nat.lt_of_lt_of_le (by decide) hf.lo
  refine ⟨_, rfl, a, _, rfl, .inl hS, _, rfl, ?_, ?_, fun D hD => lc_range (lo := 0) (n := (rv r).length) (MadeI H D (fun i => phaseDifference (stateAt r i) (stateAt r (i + 1)))) ⟨fun b o e => (upd_ne (ne_of_none e hD)).trans e, upd_same⟩ (fun i H' hi' m => ?_) (fun H' m => ?_)⟩
  · rw [rv_len]; omega
  · rw [rv_len]; omega
  · rw [rv_len] at hi'
    have z := rv_at hi'
    rw [← state_lt hi'] at z
    refine ⟨rfl, ?_⟩
    refine ⟨_, rfl, _, rfl, a, _, _, _, rfl, rfl, m.1.seq hS, ?_, _, rfl, _, rfl, _, rfl, a, r, i, ?_, m.1.seq hS, hi', a, _, _, _, rfl, rfl, m.1.seq hS, rv_st _ h0, stateAt r i, stateAt r (i + 1), rfl, _, m.2, ?_, ?_⟩
    · rw [Int.zero_add]
      exact z
    · show [V.ref a, V.int ((0 : Int) + (i : Int))] = _
      rw [zadd]
    · rw [List.length_map, List.length_map, List.length_range]
      exact small12 (by omega)
    · refine ⟨fun b o e => (upd_ne (ne_of_none e hD)).trans (m.1 b o e), ?_⟩
      rw [upd_same, List.range_succ, List.map_append, List.map_append]
      rfl
  · rw [rv_len] at m
    refine ⟨_, rfl, D, _, rfl, SqL.of m.2, _, _, rfl, rfl, ⟨by decide, by decide⟩, ?_⟩
    exact q H' m.1
theorem ok_is_wave (T : Txt K mg A) : Good P w K mg base CX0 1 A.f_is_wave ["states", "i", "behind", "ahead"] (spIsWave K) := by
  obtain ⟨fd, F, b⟩ := T.F_is_wave
  refine ⟨⟨fd, ?_, b⟩, F.kp⟩
  refine F.ok sc_is_wave (fun vs H Q E h => ?_) (fun cdv Ar outer s H vs Q E hr h => ?_)
  · obtain ⟨a, r, i, j, k, rfl, _⟩ := h
    rfl
  have nd := sc_is_wave.nd
  refine ⟨_, (pss_one (ps_ret (pe_and (pe_cmpR op_eq (pe_ix ix_list (pv 0) (pv 1) (fun _ _ => rfl)) (pe_gi T.v_STANDING) (nomark _)) (pe_and (pe_cmpR op_eq (pe_ix ix_list (pv 0) (pv 2) (fun _ _ => rfl)) (pe_gi T.v_RESTING) (nomark _)) (pe_one (pe_cmpR op_eq (pe_ix ix_list (pv 0) (pv 3) (fun _ _ => rfl)) (pe_gi T.v_SEATED) (nomark _))))))), ?_⟩
  obtain ⟨a, r, i, j, k, rfl, hS, h1, h2, h3, q⟩ := h
  have z1 := rv_at h1
  have z2 := rv_at h2
  have z3 := rv_at h3
  rw [← state_lt h1] at z1
  rw [← state_lt h2] at z2
  rw [← state_lt h3] at z3
  refine ⟨_, rfl, _, rfl, a, _, _, _, rfl, rfl, hS, z1, rfl, _, rfl, ?_⟩
  have e1 := beq_dec (a := stateAt r i) (b := 1)
  have e2 := beq_dec (a := stateAt r j) (b := 2)
  have e3 := beq_dec (a := stateAt r k) (b := 0)
  refine ite2 (fun c => ?_) (fun c => ?_)
  · rw [← e1, show decide (V.int ((stateAt r i : Nat) : Int) = V.int ((1 : Nat) : Int)) = true from c, Bool.true_and] at q
    refine ⟨_, rfl, _, rfl, a, _, _, _, rfl, rfl, hS, z2, rfl, _, rfl, ?_⟩
    refine ite2 (fun c => ?_) (fun c => ?_)
    · rw [← e2, show decide (V.int ((stateAt r j : Nat) : Int) = V.int ((2 : Nat) : Int)) = true from c, Bool.true_and] at q
      refine ⟨_, rfl, _, rfl, a, _, _, _, rfl, rfl, hS, z3, rfl, ?_⟩
      rw [← e3] at q
      exact q
    · rw [← e2, show decide (V.int ((stateAt r j : Nat) : Int) = V.int ((2 : Nat) : Int)) = false from Bool.eq_false_iff.mpr c, Bool.false_and] at q
      exact q
  · rw [← e1, show decide (V.int ((stateAt r i : Nat) : Int) = V.int ((1 : Nat) : Int)) = false from Bool.eq_false_iff.mpr c, Bool.false_and] at q
    exact q
theorem ok_is_forward_wave (T : Txt K mg A) : Good P w K mg base CX0 2 A.f_is_forward_wave ["states", "i"] (spIsFore K fore) := by
  obtain ⟨fd, F, b⟩ := T.F_is_forward_wave
  refine ⟨⟨fd, ?_, b⟩, F.kp⟩
  refine F.ok sc_is_forward_wave (fun vs H Q E h => ?_) (fun cdv Ar outer s H vs Q E hr h => ?_)
  · obtain ⟨a, r, i, rfl, _⟩ := h
    rfl
  have nd := sc_is_forward_wave.nd
  have G_next_section := ok_next_section (P := P) (w := w) (base := base) T
  have G_previous_section := ok_previous_section (P := P) (w := w) (base := base) T
  have G_is_wave := ok_is_wave (P := P) (w := w) (base := base) T
  refine ⟨_, (pss_one (ps_ret (pe_callG G_is_wave (hr.mono (by decide)) T.g_is_wave pass0 (pa_cons (pv 0) (pa_cons (pv 1) (pa_cons (pe_callG G_previous_section (hr.mono (by decide)) T.g_previous_section pass0 (pa_cons (pv 0) (pa_cons (pv 1) pa_nil))) (pa_cons (pe_callG G_next_section (hr.mono (by decide)) T.g_next_section pass0 (pa_cons (pv 0) (pa_cons (pv 1) pa_nil))) pa_nil))))))), ?_⟩
  obtain ⟨a, r, i, rfl, hS, hi, q⟩ := h
  have h0 : 0 < r.length := by omega
  refine ⟨_, rfl, _, rfl, _, rfl, _, rfl, a, r, i, rfl, hS, hi, _, rfl, _, rfl, a, r, i, rfl, hS, hi, a, r, i, (i + r.length - 1) % r.length, (i + 1) % r.length, rfl, hS, hi, Nat.mod_lt _ h0, Nat.mod_lt _ h0, ?_⟩
  rw [st_mod, st_mod]
  have e : fore r i = (stateAt r i == 1 && (stateAt r (i + r.length - 1) == 2 && stateAt r (i + 1) == 0)) := by
    unfold fore previousState
    rw [Bool.and_assoc, Bool.and_comm (stateAt r (i + 1) == 0)]
  rw [e] at q
  exact q
theorem ok_is_backward_wave (T : Txt K mg A) : Good P w K mg base CX0 2 A.f_is_backward_wave ["states", "i"] (spIsFore K back) := by
  obtain ⟨fd, F, b⟩ := T.F_is_backward_wave
  refine ⟨⟨fd, ?_, b⟩, F.kp⟩
  refine F.ok sc_is_backward_wave (fun vs H Q E h => ?_) (fun cdv Ar outer s H vs Q E hr h => ?_)
  · obtain ⟨a, r, i, rfl, _⟩ := h
    rfl
  have nd := sc_is_backward_wave.nd
  have G_next_section := ok_next_section (P := P) (w := w) (base := base) T
  have G_previous_section := ok_previous_section (P := P) (w := w) (base := base) T
  have G_is_wave := ok_is_wave (P := P) (w := w) (base := base) T
  refine ⟨_, (pss_one (ps_ret (pe_callG G_is_wave (hr.mono (by decide)) T.g_is_wave pass0 (pa_cons (pv 0) (pa_cons (pv 1) (pa_cons (pe_callG G_next_section (hr.mono (by decide)) T.g_next_section pass0 (pa_cons (pv 0) (pa_cons (pv 1) pa_nil))) (pa_cons (pe_callG G_previous_section (hr.mono (by decide)) T.g_previous_section pass0 (pa_cons (pv 0) (pa_cons (pv 1) pa_nil))) pa_nil))))))), ?_⟩
  obtain ⟨a, r, i, rfl, hS, hi, q⟩ := h
  have h0 : 0 < r.length := by omega
  refine ⟨_, rfl, _, rfl, _, rfl, _, rfl, a, r, i, rfl, hS, hi, _, rfl, _, rfl, a, r, i, rfl, hS, hi, a, r, i, (i + 1) % r.length, (i + r.length - 1) % r.length, rfl, hS, hi, Nat.mod_lt _ h0, Nat.mod_lt _ h0, ?_⟩
  rw [st_mod, st_mod]
  have e : back r i = (stateAt r i == 1 && (stateAt r (i + 1) == 2 && stateAt r (i + r.length - 1) == 0)) := by
    unfold back previousState
    rw [Bool.and_assoc, Bool.and_comm (stateAt r (i + r.length - 1) == 0)]
  rw [e] at q
  exact q
theorem filter_snoc {p : Nat → Bool} {i : Nat} : (List.range (i + 1)).filter p = (List.range i).filter p ++ (if p i = true then [i] else []) := by
  rw [List.range_succ, List.filter_append]
  cases h : p i <;> simp [List.filter, h]
theorem ok_forward_waves_in (T : Txt K mg A) : Good P w K mg base CX0 3 A.f_forward_waves_in ["states"] (spWaves K forwardWaves) := by
  obtain ⟨fd, F, b⟩ := T.F_forward_waves_in
  refine ⟨⟨fd, ?_, b⟩, F.kp⟩
  refine F.ok sc_forward_waves_in (fun vs H Q E h => ?_) (fun cdv Ar outer s H vs Q E hr h => ?_)
  · obtain ⟨a, r, rfl, _⟩ := h
    rfl
  have nd := sc_forward_waves_in.nd
  have G_is_forward_wave := ok_is_forward_wave (P := P) (w := w) (base := base) T
  refine ⟨_, (pss_one (ps_ret (pe_lc (own := [("i", 1)]) (g := gName 1) rfl nd (pi_range1 (by rfl) T.n_range (pa_cons (pe_callB call_len_seq (by rfl) T.n_len PySem.boot_len (pa_cons (pv 0) pa_nil)) pa_nil)) (blkOk_by (N := ["states", "i"]) (sc := defScope s_forward_waves_in) (by decide +kernel))
      (fun _ _ _ _ _ => pg_name (i := 1) nd rfl (Or.inl rfl)) (fun _ _ _ _ _ => (pts_one (pt_val (pe_callG G_is_forward_wave (hr.mono (by decide)) T.g_is_forward_wave pass0 (pa_cons (pv 0) (pa_cons (pv 1) pa_nil)))))) (fun _ _ _ _ _ => (pv 1))))), ?_⟩
  obtain ⟨a, r, rfl, hS, hf, q⟩ := h
  have hi := hf.hi
  refine ⟨_, rfl, a, _, rfl, .inl hS, _, rfl, ?_, ?_, fun D hD => lc_range (lo := 0) (n := (rv r).length) (Kept' H D (fore r)) ⟨fun b o e => (upd_ne (ne_of_none e hD)).trans e, upd_same⟩ (fun i H' hi' m => ?_) (fun H' m => ?_)⟩
  · rw [rv_len]; omega
  · rw [rv_len]; omega
  · rw [rv_len] at hi'
    refine ⟨rfl, ?_⟩
    refine ⟨_, rfl, _, rfl, a, r, i, ?_, m.1.seq hS, hi', _, rfl, ite2 (fun c => ?_) (fun c => ?_)⟩
    · show [V.ref a, V.int ((0 : Int) + (i : Int))] = _
      rw [zadd]
    · refine ⟨_, rfl, _, m.2, ?_, fun b o e => (upd_ne (ne_of_none e hD)).trans (m.1 b o e), ?_⟩
      · rw [rv_len]
        have := List.length_filter_le (fore r) (List.range i)
        rw [List.length_range] at this
        exact small12 (by omega)
      · rw [upd_same, filter_snoc, if_pos c, zadd, rv_snoc]
    · refine ⟨m.1, ?_⟩
      rw [filter_snoc, if_neg c, List.append_nil]
      exact m.2
  · rw [rv_len] at m
    exact q H' D m.1 hD m.2
theorem ok_backward_waves_in (T : Txt K mg A) : Good P w K mg base CX0 3 A.f_backward_waves_in ["states"] (spWaves K backwardWaves) := by
  obtain ⟨fd, F, b⟩ := T.F_backward_waves_in
  refine ⟨⟨fd, ?_, b⟩, F.kp⟩
  refine F.ok sc_backward_waves_in (fun vs H Q E h => ?_) (fun cdv Ar outer s H vs Q E hr h => ?_)
  · obtain ⟨a, r, rfl, _⟩ := h
    rfl
  have nd := sc_backward_waves_in.nd
  have G_is_backward_wave := ok_is_backward_wave (P := P) (w := w) (base := base) T
  refine ⟨_, (pss_one (ps_ret (pe_lc (own := [("i", 1)]) (g := gName 1) rfl nd (pi_range1 (by rfl) T.n_range (pa_cons (pe_callB call_len_seq (by rfl) T.n_len PySem.boot_len (pa_cons (pv 0) pa_nil)) pa_nil)) (blkOk_by (N := ["states", "i"]) (sc := defScope s_backward_waves_in) (by decide +kernel))
      (fun _ _ _ _ _ => pg_name (i := 1) nd rfl (Or.inl rfl)) (fun _ _ _ _ _ => (pts_one (pt_val (pe_callG G_is_backward_wave (hr.mono (by decide)) T.g_is_backward_wave pass0 (pa_cons (pv 0) (pa_cons (pv 1) pa_nil)))))) (fun _ _ _ _ _ => (pv 1))))), ?_⟩
  obtain ⟨a, r, rfl, hS, hf, q⟩ := h
  have hi := hf.hi
  refine ⟨_, rfl, a, _, rfl, .inl hS, _, rfl, ?_, ?_, fun D hD => lc_range (lo := 0) (n := (rv r).length) (Kept' H D (back r)) ⟨fun b o e => (upd_ne (ne_of_none e hD)).trans e, upd_same⟩ (fun i H' hi' m => ?_) (fun H' m => ?_)⟩
  · rw [rv_len]; omega
  · rw [rv_len]; omega
  · rw [rv_len] at hi'
    refine ⟨rfl, ?_⟩
    refine ⟨_, rfl, _, rfl, a, r, i, ?_, m.1.seq hS, hi', _, rfl, ite2 (fun c => ?_) (fun c => ?_)⟩
    · show [V.ref a, V.int ((0 : Int) + (i : Int))] = _
      rw [zadd]
    · refine ⟨_, rfl, _, m.2, ?_, fun b o e => (upd_ne (ne_of_none e hD)).trans (m.1 b o e), ?_⟩
      · rw [rv_len]
        have := List.length_filter_le (back r) (List.range i)
        rw [List.length_range] at this
        exact small12 (by omega)
      · rw [upd_same, filter_snoc, if_pos c, zadd, rv_snoc]
    · refine ⟨m.1, ?_⟩
      rw [filter_snoc, if_neg c, List.append_nil]
      exact m.2
  · rw [rv_len] at m
    exact q H' D m.1 hD m.2
end
end Sw

set_option Elab.async false
set_option linter.all false
set_option maxRecDepth 100000
set_option maxHeartbeats 4000000
namespace Sw
open PySem PySem.Spec PyProof.Rows L2
open Kv439 (Ring stateAt previousState nextRing ringAfter rotated standing Simulator)
theorem lk_here {k : Str} {v : V} {r : List (Str × V)} : List.lookup k ((k, v) :: r) = some v := by
  have e : (k == k) = true := beq_self_eq_true k
  simp only [List.lookup, e]
theorem lk_past {k g : Str} {v : V} {r : List (Str × V)} (h : (k == g) = false) : List.lookup k ((g, v) :: r) = List.lookup k r := by
  simp only [List.lookup, h]
theorem put_here {f : Str} {v x : V} {r : List (Str × V)} : putF f v ((f, x) :: r) = (f, v) :: r := if_pos rfl
theorem put_past {f g : Str} {v x : V} {r : List (Str × V)} (h : ¬ g = f) : putF f v ((g, x) :: r) = (g, x) :: putF f v r := if_neg h
def simF (l : Addr) (t : Nat) : List (Str × V) := [("states", .ref l), ("time", .int (t : Int))]
theorem simF_states (l : Addr) (t : Nat) : (simF l t).lookup ("states" : Str) = some (.ref l) := lk_here
theorem simF_time (l : Addr) (t : Nat) : (simF l t).lookup ("time" : Str) = some (.int (t : Int)) := (lk_past (by decide +kernel)).trans lk_here
theorem simF_no {m : Str} (l : Addr) (t : Nat) (h1 : (m == ("states" : Str)) = false) (h2 : (m == ("time" : Str)) = false) : (simF l t).lookup m = none :=
  (lk_past h1).trans ((lk_past h2).trans rfl)
theorem simF_ring (l p : Addr) (t : Nat) : putF "states" (.ref p) (simF l t) = simF p t := put_here
theorem simF_tick (l : Addr) (t n : Nat) : putF "time" (.int (n : Int)) (simF l t) = simF l n := (put_past (by decide +kernel)).trans (congrArg _ put_here)
theorem simF_new (p : Addr) : putF "time" (.int 0) (putF "states" (.ref p) []) = simF p 0 := (put_past (by decide +kernel)).trans rfl
/-- at a a simulator whose ring lies at l -/
structure SimAt (C : Addr) (H : Hp) (a l : Addr) (r : Ring) (t : Nat) : Prop where
  ob : ∃ dx, H a = some (.ins C dx (simF l t))
  ls : H l = some (.lst (rv r))
theorem SimAt.ne {C : Addr} {H : Hp} {a l : Addr} {r : Ring} {t : Nat} (s : SimAt C H a l r t) : a ≠ l := fun z => by
  obtain ⟨dx, e⟩ := s.ob
  rw [z, s.ls] at e
  cases e
/-- a and the ring at l may have changed, all else stands -/
def Kept (a l : Addr) (H H' : Hp) : Prop := ∀ b o, H b = some o → b ≠ a → b ≠ l → H' b = some o
/-- what a simulator that has become (r, t) is told to have left -/
structure Left (C : Addr) (H H' : Hp) (a l : Addr) (r : Ring) (t : Nat) : Prop where
  sim : ∃ l', SimAt C H' a l' r t ∧ (l' = l ∨ H l' = none)
  kept : Kept a l H H'
  stay : ∀ b, H' b = none → H b = none
theorem Left.refl {C : Addr} {H : Hp} {a l : Addr} {r : Ring} {t : Nat} (s : SimAt C H a l r t) : Left C H H a l r t :=
  ⟨⟨l, s, .inl rfl⟩, fun _ _ e _ _ => e, fun _ e => e⟩
theorem stay_upd {H H' : Hp} {a : Addr} {o : HO} (h : ∀ b, H' b = none → H b = none) : ∀ b, upd H' a o b = none → H b = none := fun b e => by
  by_cases z : b = a
  · rw [z, upd_same] at e
    cases e
  · rw [upd_ne z] at e
    exact h b e
/-- a new object beside -/
theorem Left.over {C : Addr} {H H1 : Hp} {a l p : Addr} {r : Ring} {t : Nat} (s : Left C H H1 a l r t) (hp : H1 p = none) (o : HO) : Left C H (upd H1 p o) a l r t := by
  obtain ⟨⟨l', ⟨⟨dx, e1⟩, e2⟩, h⟩, k, st⟩ := s
  exact ⟨⟨l', ⟨⟨dx, (upd_ne (ne_of_none e1 hp)).trans e1⟩, (upd_ne (ne_of_none e2 hp)).trans e2⟩, h⟩,
    fun b o e ha hl => (upd_ne (ne_of_none (k b o e ha hl) hp)).trans (k b o e ha hl), stay_upd st⟩
/-- one item of the ring is stored -/
theorem SimAt.put {C : Addr} {H : Hp} {a l : Addr} {r : Ring} {t : Nat} (s : SimAt C H a l r t) (r' : Ring) : SimAt C (upd H l (.lst (rv r'))) a l r' t :=
  ⟨by obtain ⟨dx, e⟩ := s.ob; exact ⟨dx, (upd_ne s.ne).trans e⟩, upd_same⟩
theorem Left.put {C : Addr} {H : Hp} {a l : Addr} {r : Ring} {t : Nat} (s : SimAt C H a l r t) (r' : Ring) : Left C H (upd H l (.lst (rv r'))) a l r' t :=
  ⟨⟨l, s.put r', .inl rfl⟩, fun b o e _ hl => (upd_ne hl).trans e, stay_upd fun _ e => e⟩
/-- a ring that was made is stored -/
theorem SimAt.swap {C : Addr} {H H' : Hp} {a l p dx : Addr} {r r' : Ring} {t : Nat} (s : SimAt C H a l r t) (hp : H p = none) (k : Same H H') (hp' : H' p = some (.lst (rv r'))) (t' : Nat) :
    SimAt C (upd H' a (.ins C dx (simF p t'))) a p r' t' :=
  ⟨⟨dx, upd_same⟩, (upd_ne (fun z => by
    obtain ⟨d, e⟩ := s.ob
    rw [z, e] at hp
    cases hp)).trans hp'⟩
theorem Left.swap {C : Addr} {H H' : Hp} {a l p dx : Addr} {r r' : Ring} {t : Nat} (s : SimAt C H a l r t) (hp : H p = none) (k : Same H H') (hp' : H' p = some (.lst (rv r'))) (t' : Nat) :
    Left C H (upd H' a (.ins C dx (simF p t'))) a l r' t' :=
  ⟨⟨p, s.swap hp k hp' t', .inr hp⟩, fun b o e ha _ => (upd_ne ha).trans (k b o e), stay_upd fun _ e => k.free e⟩
theorem rv_set {r : Ring} {i x : Nat} : (rv r).set i (.int (x : Int)) = rv (r.set i x) := by
  unfold rv
  rw [List.map_set]
theorem ixN_nat {n i : Nat} (h : i < n) : ixN n (i : Int) = some i := by
  unfold ixN
  rw [if_pos (by omega), if_pos (by omega)]
  simp
def spSimInit (C : Addr) : Sp := fun vs H Q _ => ∃ (p dx : Addr) (n : Nat), vs = [.ref p, .int n] ∧ H p = some (.ins C dx []) ∧ n ≤ 12 ∧
  ∀ (H' : Hp) (l : Addr), SimAt C H' p l (List.replicate n 0) 0 → H l = none → (∀ b o, H b = some o → b ≠ p → H' b = some o) → Q .non H'
def spReqSection (A : Ad) : Sp := fun vs H Q E => ∃ (a l : Addr) (r : Ring) (t i : Nat), vs = [.ref a, .int i] ∧ SimAt A.c_Simulator H a l r t ∧
  (r.length ≤ i → Err E A.c_NoSection (-2) H) ∧ (i < r.length → Q .non H)
def spReqSeated (A : Ad) : Sp := fun vs H Q E => ∃ (a l : Addr) (r : Ring) (t i : Nat), vs = [.ref a, .int i] ∧ SimAt A.c_Simulator H a l r t ∧ i < r.length ∧
  (stateAt r i ≠ 0 → Err E A.c_NotSeated (-17) H) ∧ (stateAt r i = 0 → Q .non H)
/-- the class of the error with a code -/
def errC (A : Ad) (n : Int) : Addr := if n = -2 then A.c_NoSection else if n = -17 then A.c_NotSeated else if n = -11 then A.c_NoSimulator else if n = -33 then A.c_NeverHappens else A.c_OutOfRange
/-- a method of whole numbers that answers one number: just what the document's operation does -/
def spNum (A : Ad) (k : Nat) (op : List Nat → Kv439.Operation) : Sp := fun vs H Q E => ∃ (a l : Addr) (r : Ring) (t : Nat) (ns : List Nat),
  vs = .ref a :: ns.map (fun (n : Nat) => V.int (n : Int)) ∧ ns.length = k ∧ SimAt A.c_Simulator H a l r t ∧ Fine r ∧
  ((Simulator.run ⟨r, t⟩ (op ns)).2.code < 0 → Err E (errC A (Simulator.run ⟨r, t⟩ (op ns)).2.code) (Simulator.run ⟨r, t⟩ (op ns)).2.code H) ∧
  (¬ (Simulator.run ⟨r, t⟩ (op ns)).2.code < 0 → ∀ H', Left A.c_Simulator H H' a l (Simulator.run ⟨r, t⟩ (op ns)).1.ring (Simulator.run ⟨r, t⟩ (op ns)).1.time →
    Q (.int (Simulator.run ⟨r, t⟩ (op ns)).2.code) H')
section
variable {P : Program} {w : World} {K : PySem.W.Frag} {mg : Str → Option Value} {base : Heap} {A : Ad}
theorem ok_Simulator_init (T : Txt K mg A) : Good P w K mg base CX0 1 A.f_Simulator_init ["self", "sections"] (spSimInit A.c_Simulator) := by
  obtain ⟨fd, F, b⟩ := T.F_Simulator_init
  refine ⟨⟨fd, ?_, b⟩, F.kp⟩
  refine F.ok sc_Simulator_init (fun vs H Q E h => ?_) (fun cdv Ar outer s H vs Q E hr h => ?_)
  · obtain ⟨p, dx, n, rfl, _⟩ := h
    rfl
  have nd := sc_Simulator_init.nd
  refine ⟨_, (pss_cons (ps_fld (pv 0) (pe_op op_rep (pe_lst (pa_cons (pe_gi T.v_SEATED) pa_nil)) (pv 1)) rfl)
    (pss_one (ps_fld (pv 0) pe_int rfl))), ?_⟩
  obtain ⟨p, dx, n, rfl, hp, hn, q⟩ := h
  refine ⟨by show 1 ≤ sizeLine; decide, fun l0 h0 => ?_⟩
  refine ⟨_, rfl, l0, n, _, rfl, rfl, upd_same, by omega, by omega, ?_, fun l hl => ?_⟩
  · have := small12 hn
    show 1 * ((n : Int)).toNat ≤ sizeLine
    rw [Int.toNat_natCast]
    omega
  have hl0 : l ≠ l0 := fun z => by
    rw [z, upd_same] at hl
    cases hl
  have hl1 : H l = none := by
    rw [upd_ne hl0] at hl
    exact hl
  have pl : p ≠ l := ne_of_none hp hl1
  have pl0 : p ≠ l0 := ne_of_none hp h0
  have hp2 : ∀ o, upd (upd H l0 (.lst [.int 0])) l o p = some (.ins A.c_Simulator dx []) := fun o => by
    rw [upd_ne pl, upd_ne pl0]
    exact hp
  refine ⟨_, rfl, p, _, dx, _, rfl, hp2 _, T.cl_Simulator, T.na_Simulator_states, by show 0 < 1000; decide, ?_⟩
  refine ⟨_, rfl, p, _, dx, _, rfl, upd_same, T.cl_Simulator, T.na_Simulator_time, by show 1 < 1000; decide, ?_⟩
  refine q _ l ⟨⟨dx, ?_⟩, ?_⟩ hl1 fun b o e hb => ?_
  · rw [upd_same]
    exact congrArg (fun z => some (HO.ins A.c_Simulator dx z)) (simF_new l)
  · rw [upd_ne (Ne.symm pl), upd_ne (Ne.symm pl), upd_same]
    refine congrArg (fun z => some (HO.lst z)) ?_
    show (List.replicate ((n : Int)).toNat [V.int 0]).flatten = rv (List.replicate n 0)
    rw [Int.toNat_natCast]
    unfold rv
    rw [List.map_replicate]
    clear hl hl0 hl1 pl pl0 hp2 q hn
    induction n with
    | zero => rfl
    | succ n ih =>
      rw [List.replicate_succ, List.flatten_cons, ih, List.replicate_succ]
      rfl
  · rw [upd_ne hb, upd_ne hb, upd_ne (ne_of_none e hl1), upd_ne (ne_of_none e h0)]
    exact e
theorem ok_Simulator_require_section (T : Txt K mg A) : Good P w K mg base (L2.CX P w) 4 A.f_Simulator_require_section ["self", "i"] (spReqSection A) := by
  obtain ⟨fd, F, b⟩ := T.F_Simulator_require_section
  refine ⟨⟨fd, ?_, b⟩, F.kp⟩
  refine F.okX sc_Simulator_require_section (fun vs H Q E h => ?_) (fun cdv Ar outer s H vs Q E hr h => ?_)
  · obtain ⟨a, l, r, t, i, rfl, _⟩ := h
    rfl
  have nd := sc_Simulator_require_section.nd
  have G_NoSection_init := ok_NoSection_init (P := P) (w := w) (base := base) T
  refine ⟨_, (pss_one (ps_if (pt_cmpR op_ge (pv 1) (pe_callB call_len_seq (by rfl) T.n_len PySem.boot_len (pa_cons (pe_fld (pv 0) rfl) pa_nil)) (nomark _)) (pss_one (ps_raise rfl (takes_of rfl rfl rfl rfl) (pmk_errG T.e_NoSection T.i_NoSection T.t_NoSection G_NoSection_init (hr.mono (by decide)) pass0 T.g_NoSection))) pss_nil)), ?_⟩
  obtain ⟨a, l, r, t, i, rfl, hS, k1, k2⟩ := h
  obtain ⟨dx, ob⟩ := hS.ob
  refine ⟨_, rfl, _, rfl, a, _, dx, _, _, rfl, ob, T.cl_Simulator, T.na_Simulator_states, simF_states l t, l, _, rfl, .inl (.inl (.inl hS.ls)), _, _, rfl, rfl, _, rfl, ?_⟩
  rw [rv_len]
  refine ite2 (fun c => ?_) (fun c => ?_)
  · have c' : (r.length : Int) ≤ (i : Int) := of_decide_eq_true c
    exact raise_code T.e_NoSection (k1 (by omega))
  · have c' : ¬ ((r.length : Int) ≤ (i : Int)) := fun z => c (decide_eq_true z)
    exact k2 (by omega)
theorem vint_ne {a b : Nat} : (!decide (V.int (a : Int) = V.int (b : Int))) = !decide (a = b) := by rw [vint_eq]
theorem ok_Simulator_require_seated (T : Txt K mg A) : Good P w K mg base (L2.CX P w) 4 A.f_Simulator_require_seated ["self", "i"] (spReqSeated A) := by
  obtain ⟨fd, F, b⟩ := T.F_Simulator_require_seated
  refine ⟨⟨fd, ?_, b⟩, F.kp⟩
  refine F.okX sc_Simulator_require_seated (fun vs H Q E h => ?_) (fun cdv Ar outer s H vs Q E hr h => ?_)
  · obtain ⟨a, l, r, t, i, rfl, _⟩ := h
    rfl
  have nd := sc_Simulator_require_seated.nd
  have G_NotSeated_init := ok_NotSeated_init (P := P) (w := w) (base := base) T
  refine ⟨_, (pss_one (ps_if (pt_cmpR op_ne (pe_ix ix_list (pe_fld (pv 0) rfl) (pv 1) (fun _ _ => rfl)) (pe_gi T.v_SEATED) (nomark _)) (pss_one (ps_raise rfl (takes_of rfl rfl rfl rfl) (pmk_errG T.e_NotSeated T.i_NotSeated T.t_NotSeated G_NotSeated_init (hr.mono (by decide)) pass0 T.g_NotSeated))) pss_nil)), ?_⟩
  obtain ⟨a, l, r, t, i, rfl, hS, hi, k1, k2⟩ := h
  obtain ⟨dx, ob⟩ := hS.ob
  have z := rv_at hi
  rw [← state_lt hi] at z
  refine ⟨_, rfl, a, _, dx, _, _, rfl, ob, T.cl_Simulator, T.na_Simulator_states, simF_states l t, _, rfl, l, _, _, _, rfl, rfl, .inl (.inl hS.ls), z, rfl, _, rfl, ?_⟩
  refine ite2 (fun c => ?_) (fun c => ?_)
  · refine raise_code T.e_NotSeated (k1 fun e => ?_)
    have c' := (vint_ne (b := 0)).symm.trans c
    rw [decide_eq_true e] at c'
    cases c'
  · refine k2 ?_
    by_cases e : stateAt r i = 0
    · exact e
    · exact absurd ((vint_ne (b := 0)).trans (by rw [decide_eq_false e]; rfl)) c
end
end Sw

set_option Elab.async false
set_option linter.all false
set_option maxRecDepth 100000
set_option maxHeartbeats 4000000
namespace Sw
open PySem PySem.Spec PyProof.Rows L2
open Kv439 (Ring stateAt previousState nextRing ringAfter rotated standing Simulator Response)
theorem len0 {α : Type} {l : List α} (h : l.length = 0) : l = [] := List.eq_nil_of_length_eq_zero h
theorem len1 {α : Type} {l : List α} (h : l.length = 1) : ∃ a, l = [a] := by
  match l, h with
  | [a], _ => exact ⟨a, rfl⟩
theorem len2 {α : Type} {l : List α} (h : l.length = 2) : ∃ a b, l = [a, b] := by
  match l, h with
  | [a, b], _ => exact ⟨a, b, rfl⟩
def opSet (ns : List Nat) : Kv439.Operation := .setSection (ns.getD 0 0) (ns.getD 1 0)
def opUp (ns : List Nat) : Kv439.Operation := .standUp (ns.getD 0 0)
def opWave (ns : List Nat) : Kv439.Operation := .startWave (ns.getD 0 0) (ns.getD 1 0)
def opStep (_ : List Nat) : Kv439.Operation := .step
def opAdv (ns : List Nat) : Kv439.Operation := .advance (ns.getD 0 0)
def opRot (ns : List Nat) : Kv439.Operation := .rotate (ns.getD 0 0)
def opMir (_ : List Nat) : Kv439.Operation := .mirror
def opSit (_ : List Nat) : Kv439.Operation := .sitDown
def opGet (ns : List Nat) : Kv439.Operation := .getSection (ns.getD 0 0)
/-- from what is promised of an operation: its error -/
theorem num_err {E : XK} {A : Ad} {H : Hp} {s s' : Simulator} {o : Kv439.Operation} {n : Int} (e : s.run o = (s', .error n)) (hn : n < 0)
    (k : (s.run o).2.code < 0 → Err E (errC A (s.run o).2.code) (s.run o).2.code H) : Err E (errC A n) n H := by
  rw [e] at k
  exact k hn
/-- .. its answer -/
theorem num_ok {Q : VK} {C : Addr} {H : Hp} {a l : Addr} {s s' : Simulator} {o : Kv439.Operation} {n : Nat} (e : s.run o = (s', .number n))
    (k : ¬ (s.run o).2.code < 0 → ∀ H', Left C H H' a l (s.run o).1.ring (s.run o).1.time → Q (.int (s.run o).2.code) H') :
    ∀ H', Left C H H' a l s'.ring s'.time → Q (.int (n : Int)) H' := by
  rw [e] at k
  refine k ?_
  show ¬ ((n : Int) < 0)
  omega
section
variable {P : Program} {w : World} {K : PySem.W.Frag} {mg : Str → Option Value} {base : Heap} {A : Ad}
theorem ok_Simulator_set_section (T : Txt K mg A) : Good P w K mg base (L2.CX P w) 5 A.f_Simulator_set_section ["self", "i", "state"] (spNum A 2 opSet) := by
  obtain ⟨fd, F, b⟩ := T.F_Simulator_set_section
  refine ⟨⟨fd, ?_, b⟩, F.kp⟩
  refine F.okX sc_Simulator_set_section (fun vs H Q E h => ?_) (fun cdv Ar outer s H vs Q E hr h => ?_)
  · obtain ⟨a, l, r, t, ns, rfl, hk, _⟩ := h
    obtain ⟨i, x, rfl⟩ := len2 hk
    rfl
  have nd := sc_Simulator_set_section.nd
  have G_Simulator_require_section := ok_Simulator_require_section (P := P) (w := w) (base := base) T
  have G_require_at_most := ok_require_at_most (P := P) (w := w) (base := base) T
  refine ⟨_, (pss_cons (ps_expr (pe_methG (pv 0) T.cl_Simulator T.m_Simulator_require_section G_Simulator_require_section (hr.mono (by decide)) (passes_call (takes_of rfl rfl rfl rfl) fun _ _ _ _ z => z) (pa_cons (pv 1) pa_nil)))
    (pss_cons (ps_expr (pe_callG G_require_at_most (hr.mono (by decide)) T.g_require_at_most (passes_call (takes_of rfl rfl rfl rfl) fun _ _ _ _ z => z) (pa_cons (pv 2) (pa_cons (pe_gi T.v_RESTING) pa_nil))))
    (pss_cons (ps_set (i := 3) nd rfl (Or.inl rfl) (pe_ix ix_list (pe_fld (pv 0) rfl) (pv 1) (fun _ _ => rfl)))
    (pss_cons (ps_asg (pv 2) (pg_sub (pe_fld (pv 0) rfl) (pv 1) set_list))
    (pss_one (ps_ret (pv 3))))))), ?_⟩
  obtain ⟨a, l, r, t, ns, rfl, hk, hS, hf, kE, kQ⟩ := h
  obtain ⟨i, x, rfl⟩ := len2 hk
  obtain ⟨dx, ob⟩ := hS.ob
  refine ⟨_, rfl, a, dx, _, rfl, ob, simF_no l t (by decide +kernel) (by decide +kernel), _, rfl, a, l, r, t, i, rfl, hS, fun h1 => ?_, fun h1 => ?_⟩
  · exact num_err (run_set1 h1) (by decide) kE
  have n1 : ¬ r.length ≤ i := Nat.not_le_of_lt h1
  refine ⟨_, rfl, _, _, rfl, fun h2 => ?_, fun h2 => ?_⟩
  · exact num_err (run_set2 n1 (show 2 < x by omega)) (by decide) kE
  have q := num_ok (run_set3 n1 (show ¬ 2 < x by omega)) kQ
  have z := rv_at h1
  rw [← state_lt h1] at z
  refine ⟨_, rfl, a, _, dx, _, _, rfl, ob, T.cl_Simulator, T.na_Simulator_states, simF_states l t, _, rfl, l, _, _, _, rfl, rfl, .inl (.inl hS.ls), z, ?_⟩
  refine ⟨_, rfl, _, rfl, a, _, dx, _, _, rfl, ob, T.cl_Simulator, T.na_Simulator_states, simF_states l t, _, rfl, l, _, _, _, rfl, rfl, hS.ls, ixN_nat (by rw [rv_len]; exact h1), ?_⟩
  refine ⟨_, rfl, q _ ?_⟩
  rw [rv_set]
  exact Left.put hS _
theorem ok_Simulator_stand_up (T : Txt K mg A) : Good P w K mg base (L2.CX P w) 5 A.f_Simulator_stand_up ["self", "i"] (spNum A 1 opUp) := by
  obtain ⟨fd, F, b⟩ := T.F_Simulator_stand_up
  refine ⟨⟨fd, ?_, b⟩, F.kp⟩
  refine F.okX sc_Simulator_stand_up (fun vs H Q E h => ?_) (fun cdv Ar outer s H vs Q E hr h => ?_)
  · obtain ⟨a, l, r, t, ns, rfl, hk, _⟩ := h
    obtain ⟨i, rfl⟩ := len1 hk
    rfl
  have nd := sc_Simulator_stand_up.nd
  have G_Simulator_require_section := ok_Simulator_require_section (P := P) (w := w) (base := base) T
  have G_Simulator_require_seated := ok_Simulator_require_seated (P := P) (w := w) (base := base) T
  have G_standing_in := ok_standing_in (P := P) (w := w) (base := base) T
  refine ⟨_, (pss_cons (ps_expr (pe_methG (pv 0) T.cl_Simulator T.m_Simulator_require_section G_Simulator_require_section (hr.mono (by decide)) (passes_call (takes_of rfl rfl rfl rfl) fun _ _ _ _ z => z) (pa_cons (pv 1) pa_nil)))
    (pss_cons (ps_expr (pe_methG (pv 0) T.cl_Simulator T.m_Simulator_require_seated G_Simulator_require_seated (hr.mono (by decide)) (passes_call (takes_of rfl rfl rfl rfl) fun _ _ _ _ z => z) (pa_cons (pv 1) pa_nil)))
    (pss_cons (ps_asg (pe_gi T.v_STANDING) (pg_sub (pe_fld (pv 0) rfl) (pv 1) set_list))
    (pss_one (ps_ret (pe_callG G_standing_in (hr.mono (by decide)) T.g_standing_in pass0 (pa_cons (pe_fld (pv 0) rfl) pa_nil))))))), ?_⟩
  obtain ⟨a, l, r, t, ns, rfl, hk, hS, hf, kE, kQ⟩ := h
  obtain ⟨i, rfl⟩ := len1 hk
  obtain ⟨dx, ob⟩ := hS.ob
  refine ⟨_, rfl, a, dx, _, rfl, ob, simF_no l t (by decide +kernel) (by decide +kernel), _, rfl, a, l, r, t, i, rfl, hS, fun h1 => ?_, fun h1 => ?_⟩
  · exact num_err (run_up1 h1) (by decide) kE
  have n1 : ¬ r.length ≤ i := Nat.not_le_of_lt h1
  refine ⟨_, rfl, a, dx, _, rfl, ob, simF_no l t (by decide +kernel) (by decide +kernel), _, rfl, a, l, r, t, i, rfl, hS, h1, fun h2 => ?_, fun h2 => ?_⟩
  · exact num_err (run_up2 n1 h2) (by decide) kE
  have q := num_ok (run_up3 n1 (fun z => z h2)) kQ
  refine ⟨_, rfl, a, _, dx, _, _, rfl, ob, T.cl_Simulator, T.na_Simulator_states, simF_states l t, _, rfl, l, _, _, _, rfl, rfl, hS.ls, ixN_nat (by rw [rv_len]; exact h1), ?_⟩
  have e := rv_set (r := r) (i := i) (x := 1)
  have S2 := hS.put (r.set i 1)
  rw [← e] at S2
  obtain ⟨dx2, ob2⟩ := S2.ob
  refine ⟨_, rfl, a, _, dx2, _, _, rfl, ob2, T.cl_Simulator, T.na_Simulator_states, simF_states l t, l, r.set i 1, rfl, .inl (.inl S2.ls), q _ ?_⟩
  have L := Left.put hS (r.set i 1)
  rw [← e] at L
  exact L
theorem ok_Simulator_start_wave (T : Txt K mg A) : Good P w K mg base (L2.CX P w) 5 A.f_Simulator_start_wave ["self", "i", "direction"] (spNum A 2 opWave) := by
  obtain ⟨fd, F, b⟩ := T.F_Simulator_start_wave
  refine ⟨⟨fd, ?_, b⟩, F.kp⟩
  refine F.okX sc_Simulator_start_wave (fun vs H Q E h => ?_) (fun cdv Ar outer s H vs Q E hr h => ?_)
  · obtain ⟨a, l, r, t, ns, rfl, hk, _⟩ := h
    obtain ⟨i, x, rfl⟩ := len2 hk
    rfl
  have nd := sc_Simulator_start_wave.nd
  have G_Simulator_require_section := ok_Simulator_require_section (P := P) (w := w) (base := base) T
  have G_Simulator_require_seated := ok_Simulator_require_seated (P := P) (w := w) (base := base) T
  have G_require_at_most := ok_require_at_most (P := P) (w := w) (base := base) T
  have G_previous_section := ok_previous_section (P := P) (w := w) (base := base) T
  have G_next_section := ok_next_section (P := P) (w := w) (base := base) T
  have G_standing_in := ok_standing_in (P := P) (w := w) (base := base) T
  refine ⟨_, (pss_cons (ps_expr (pe_methG (pv 0) T.cl_Simulator T.m_Simulator_require_section G_Simulator_require_section (hr.mono (by decide)) (passes_call (takes_of rfl rfl rfl rfl) fun _ _ _ _ z => z) (pa_cons (pv 1) pa_nil)))
    (pss_cons (ps_expr (pe_callG G_require_at_most (hr.mono (by decide)) T.g_require_at_most (passes_call (takes_of rfl rfl rfl rfl) fun _ _ _ _ z => z) (pa_cons (pv 2) (pa_cons (pe_gi T.v_TOWARDS_PREVIOUS) pa_nil))))
    (pss_cons (ps_set (i := 3) nd rfl (Or.inl rfl) (pe_callG G_previous_section (hr.mono (by decide)) T.g_previous_section pass0 (pa_cons (pe_fld (pv 0) rfl) (pa_cons (pv 1) pa_nil))))
    (pss_cons (ps_set (i := 4) nd rfl (Or.inl rfl) (pe_callG G_next_section (hr.mono (by decide)) T.g_next_section pass0 (pa_cons (pe_fld (pv 0) rfl) (pa_cons (pv 1) pa_nil))))
    (pss_cons (ps_expr (pe_methG (pv 0) T.cl_Simulator T.m_Simulator_require_seated G_Simulator_require_seated (hr.mono (by decide)) (passes_call (takes_of rfl rfl rfl rfl) fun _ _ _ _ z => z) (pa_cons (pv 1) pa_nil)))
    (pss_cons (ps_expr (pe_methG (pv 0) T.cl_Simulator T.m_Simulator_require_seated G_Simulator_require_seated (hr.mono (by decide)) (passes_call (takes_of rfl rfl rfl rfl) fun _ _ _ _ z => z) (pa_cons (pv 3) pa_nil)))
    (pss_cons (ps_expr (pe_methG (pv 0) T.cl_Simulator T.m_Simulator_require_seated G_Simulator_require_seated (hr.mono (by decide)) (passes_call (takes_of rfl rfl rfl rfl) fun _ _ _ _ z => z) (pa_cons (pv 4) pa_nil)))
    (pss_cons (ps_set (i := 5) nd rfl (Or.inl rfl) (pe_ifExp (pt_cmpR op_eq (pv 2) (pe_gi T.v_TOWARDS_NEXT) (nomark _)) (pv 3) (pv 4)))
    (pss_cons (ps_asg (pe_gi T.v_STANDING) (pg_sub (pe_fld (pv 0) rfl) (pv 1) set_list))
    (pss_cons (ps_asg (pe_gi T.v_RESTING) (pg_sub (pe_fld (pv 0) rfl) (pv 5) set_list))
    (pss_one (ps_ret (pe_callG G_standing_in (hr.mono (by decide)) T.g_standing_in pass0 (pa_cons (pe_fld (pv 0) rfl) pa_nil)))))))))))))), ?_⟩
  obtain ⟨a, l, r, t, ns, rfl, hk, hS, hf, kE, kQ⟩ := h
  obtain ⟨i, x, rfl⟩ := len2 hk
  obtain ⟨dx, ob⟩ := hS.ob
  refine ⟨_, rfl, a, dx, _, rfl, ob, simF_no l t (by decide +kernel) (by decide +kernel), _, rfl, a, l, r, t, i, rfl, hS, fun h1 => ?_, fun h1 => ?_⟩
  · exact num_err (run_wave1 h1) (by decide) kE
  have n1 : ¬ r.length ≤ i := Nat.not_le_of_lt h1
  have h0 : 0 < r.length := by omega
  refine ⟨_, rfl, _, _, rfl, fun h2 => ?_, fun h2 => ?_⟩
  · exact num_err (run_wave2 n1 (show 1 < x by omega)) (by decide) kE
  have n2 : ¬ 1 < x := by omega
  have lp : (i + r.length - 1) % r.length < r.length := Nat.mod_lt _ h0
  have ln : (i + 1) % r.length < r.length := Nat.mod_lt _ h0
  have ep : stateAt r ((i + r.length - 1) % r.length) = previousState r i := by
    unfold previousState stateAt
    rw [Nat.mod_mod]
  have en : stateAt r ((i + 1) % r.length) = stateAt r (i + 1) := by
    unfold stateAt
    rw [Nat.mod_mod]
  refine ⟨_, rfl, a, _, dx, _, _, rfl, ob, T.cl_Simulator, T.na_Simulator_states, simF_states l t, _, rfl, l, r, i, rfl, .inl (.inl hS.ls), h1, ?_⟩
  refine ⟨_, rfl, a, _, dx, _, _, rfl, ob, T.cl_Simulator, T.na_Simulator_states, simF_states l t, _, rfl, l, r, i, rfl, .inl (.inl hS.ls), h1, ?_⟩
  refine ⟨_, rfl, a, dx, _, rfl, ob, simF_no l t (by decide +kernel) (by decide +kernel), _, rfl, a, l, r, t, i, rfl, hS, h1, fun h3 => ?_, fun h3 => ?_⟩
  · exact num_err (run_wave3 n1 n2 (.inl h3)) (by decide) kE
  refine ⟨_, rfl, a, dx, _, rfl, ob, simF_no l t (by decide +kernel) (by decide +kernel), _, rfl, a, l, r, t, _, rfl, hS, lp, fun h4 => ?_, fun h4 => ?_⟩
  · rw [ep] at h4
    exact num_err (run_wave3 n1 n2 (.inr (.inl h4))) (by decide) kE
  refine ⟨_, rfl, a, dx, _, rfl, ob, simF_no l t (by decide +kernel) (by decide +kernel), _, rfl, a, l, r, t, _, rfl, hS, ln, fun h5 => ?_, fun h5 => ?_⟩
  · rw [en] at h5
    exact num_err (run_wave3 n1 n2 (.inr (.inr h5))) (by decide) kE
  rw [ep] at h4
  rw [en] at h5
  have q := num_ok (run_wave4 n1 n2 (fun z => by
    rcases z with z | z | z
    · exact z h3
    · exact z h4
    · exact z h5)) kQ
  have lb : behindOf r.length i x < r.length := by
    unfold behindOf
    split
    · exact lp
    · exact ln
  have S2 := hS.put (r.set i 1)
  have S3 := S2.put ((r.set i 1).set (behindOf r.length i x) 2)
  have fin : ∀ (H' : Hp), H' = upd (upd H l (.lst (rv (r.set i 1)))) l (.lst (rv ((r.set i 1).set (behindOf r.length i x) 2))) →
      Left A.c_Simulator H H' a l ((r.set i 1).set (behindOf r.length i x) 2) t := fun H' e => by
    subst e
    exact ⟨⟨l, S3, .inl rfl⟩, fun b o e _ hl => (upd_ne hl).trans ((upd_ne hl).trans e), stay_upd (stay_upd fun _ e => e)⟩
  rw [← rv_set (i := behindOf r.length i x), ← rv_set (i := i) (x := 1)] at fin
  refine ⟨_, rfl, rfl, _, rfl, ite2 (fun c => ⟨_, rfl, ?_⟩) (fun c => ⟨_, rfl, ?_⟩)⟩
  · have c' : x = 0 := of_decide_eq_true ((vint_eq (b := 0)).symm.trans c)
    have e : behindOf r.length i x = (i + r.length - 1) % r.length := if_pos c'
    rw [e] at q fin lb
    refine ⟨_, rfl, a, _, dx, _, _, rfl, ob, T.cl_Simulator, T.na_Simulator_states, simF_states l t, _, rfl, l, _, _, _, rfl, rfl, hS.ls, ixN_nat (by rw [rv_len]; exact h1), ?_⟩
    refine ⟨_, rfl, a, _, dx, _, _, rfl, (upd_ne hS.ne).trans ob, T.cl_Simulator, T.na_Simulator_states, simF_states l t, _, rfl, l, _, _, _, rfl, rfl, upd_same, ixN_nat (by rw [List.length_set, rv_len]; exact lb), ?_⟩
    refine ⟨_, rfl, a, _, dx, _, _, rfl, (upd_ne hS.ne).trans ((upd_ne hS.ne).trans ob), T.cl_Simulator, T.na_Simulator_states, simF_states l t, l, (r.set i 1).set ((i + r.length - 1) % r.length) 2, rfl, .inl (.inl ?_), q _ (fin _ rfl)⟩
    rw [upd_same, ← rv_set, ← rv_set]
    rfl
  · have c' : ¬ x = 0 := fun z => c ((vint_eq (b := 0)).trans (decide_eq_true z))
    have e : behindOf r.length i x = (i + 1) % r.length := if_neg c'
    rw [e] at q fin lb
    refine ⟨_, rfl, a, _, dx, _, _, rfl, ob, T.cl_Simulator, T.na_Simulator_states, simF_states l t, _, rfl, l, _, _, _, rfl, rfl, hS.ls, ixN_nat (by rw [rv_len]; exact h1), ?_⟩
    refine ⟨_, rfl, a, _, dx, _, _, rfl, (upd_ne hS.ne).trans ob, T.cl_Simulator, T.na_Simulator_states, simF_states l t, _, rfl, l, _, _, _, rfl, rfl, upd_same, ixN_nat (by rw [List.length_set, rv_len]; exact lb), ?_⟩
    refine ⟨_, rfl, a, _, dx, _, _, rfl, (upd_ne hS.ne).trans ((upd_ne hS.ne).trans ob), T.cl_Simulator, T.na_Simulator_states, simF_states l t, l, (r.set i 1).set ((i + 1) % r.length) 2, rfl, .inl (.inl ?_), q _ (fin _ rfl)⟩
    rw [upd_same, ← rv_set, ← rv_set]
    rfl
/-- what stands behind a ring stored, and a time -/
theorem swap_fin {C : Addr} {H H' : Hp} {a l p dx : Addr} {r r' : Ring} {t t' : Nat} (s : SimAt C H a l r t) (hp : H p = none) (k : Same H H') (hp' : H' p = some (.lst (rv r')))
    (o : HO) : upd (upd H' a o) a (.ins C dx (simF p t')) = upd H' a (.ins C dx (simF p t')) := by
  funext b
  by_cases h : b = a
  · rw [h, upd_same, upd_same]
  · rw [upd_ne h, upd_ne h, upd_ne h]
theorem simF_add (l : Addr) (t n : Nat) : putF "time" (.int ((t : Int) + (n : Int))) (simF l t) = simF l (t + n) := by
  rw [← Int.natCast_add]
  exact simF_tick l t (t + n)
theorem ok_Simulator_step (T : Txt K mg A) : Good P w K mg base CX0 4 A.f_Simulator_step ["self"] (spNum A 0 opStep) := by
  obtain ⟨fd, F, b⟩ := T.F_Simulator_step
  refine ⟨⟨fd, ?_, b⟩, F.kp⟩
  refine F.ok sc_Simulator_step (fun vs H Q E h => ?_) (fun cdv Ar outer s H vs Q E hr h => ?_)
  · obtain ⟨a, l, r, t, ns, rfl, hk, _⟩ := h
    obtain rfl := len0 hk
    rfl
  have nd := sc_Simulator_step.nd
  have G_after_step := ok_after_step (P := P) (w := w) (base := base) T
  have G_standing_in := ok_standing_in (P := P) (w := w) (base := base) T
  refine ⟨_, (pss_cons (ps_fld (pv 0) (pe_callG G_after_step (hr.mono (by decide)) T.g_after_step pass0 (pa_cons (pe_fld (pv 0) rfl) pa_nil)) rfl)
    (pss_cons (ps_fldaug (pv 0) pe_int in_add)
    (pss_one (ps_ret (pe_callG G_standing_in (hr.mono (by decide)) T.g_standing_in pass0 (pa_cons (pe_fld (pv 0) rfl) pa_nil)))))), ?_⟩
  obtain ⟨a, l, r, t, ns, rfl, hk, hS, hf, kE, kQ⟩ := h
  obtain rfl := len0 hk
  obtain ⟨dx, ob⟩ := hS.ob
  have q := num_ok (s := ⟨r, t⟩) (o := .step) (s' := ⟨nextRing r, t + 1⟩) (n := standing (nextRing r)) rfl kQ
  refine ⟨_, rfl, a, _, dx, _, _, rfl, ob, T.cl_Simulator, T.na_Simulator_states, simF_states l t, l, r, rfl, .inl (.inl hS.ls), hf, fun H' p s6 np hp => ?_⟩
  have pa : p ≠ a := fun z => by
    rw [z, ob] at np
    cases np
  refine ⟨_, rfl, a, _, dx, _, rfl, s6 _ _ ob, T.cl_Simulator, T.na_Simulator_states, by show 2 < 1000; decide, ?_⟩
  rw [simF_ring]
  refine ⟨_, rfl, a, _, dx, _, _, rfl, upd_same, T.cl_Simulator, T.na_Simulator_time, simF_time p t, _, _, rfl, rfl, dx, _, upd_same, by show 2 < 1000; decide, ?_⟩
  have e : putF "time" (.int ((t : Int) + 1)) (simF p t) = simF p (t + 1) := simF_add p t 1
  rw [e, swap_fin hS np s6 hp]
  refine ⟨_, rfl, a, _, dx, _, _, rfl, upd_same, T.cl_Simulator, T.na_Simulator_states, simF_states p (t + 1), p, nextRing r, rfl, .inl (.inl ((upd_ne pa).trans hp)), q _ ?_⟩
  exact Left.swap hS np s6 hp (t + 1)
theorem ok_Simulator_advance (T : Txt K mg A) : Good P w K mg base (L2.CX P w) 5 A.f_Simulator_advance ["self", "steps"] (spNum A 1 opAdv) := by
  obtain ⟨fd, F, b⟩ := T.F_Simulator_advance
  refine ⟨⟨fd, ?_, b⟩, F.kp⟩
  refine F.okX sc_Simulator_advance (fun vs H Q E h => ?_) (fun cdv Ar outer s H vs Q E hr h => ?_)
  · obtain ⟨a, l, r, t, ns, rfl, hk, _⟩ := h
    obtain ⟨i, rfl⟩ := len1 hk
    rfl
  have nd := sc_Simulator_advance.nd
  have G_require_at_most := ok_require_at_most (P := P) (w := w) (base := base) T
  have G_after_steps := ok_after_steps (P := P) (w := w) (base := base) T
  have G_standing_in := ok_standing_in (P := P) (w := w) (base := base) T
  refine ⟨_, (pss_cons (ps_expr (pe_callG G_require_at_most (hr.mono (by decide)) T.g_require_at_most (passes_call (takes_of rfl rfl rfl rfl) fun _ _ _ _ z => z) (pa_cons (pv 1) (pa_cons (pe_gi T.v_MOST_STEPS) pa_nil))))
    (pss_cons (ps_fld (pv 0) (pe_callG G_after_steps (hr.mono (by decide)) T.g_after_steps pass0 (pa_cons (pe_fld (pv 0) rfl) (pa_cons (pv 1) pa_nil))) rfl)
    (pss_cons (ps_fldaug (pv 0) (pv 1) in_add)
    (pss_one (ps_ret (pe_callG G_standing_in (hr.mono (by decide)) T.g_standing_in pass0 (pa_cons (pe_fld (pv 0) rfl) pa_nil))))))), ?_⟩
  obtain ⟨a, l, r, t, ns, rfl, hk, hS, hf, kE, kQ⟩ := h
  obtain ⟨i, rfl⟩ := len1 hk
  obtain ⟨dx, ob⟩ := hS.ob
  refine ⟨_, rfl, _, _, rfl, fun h1 => ?_, fun h1 => ?_⟩
  · exact num_err (run_adv1 (show 40 < i by omega)) (by decide) kE
  have n1 : ¬ 40 < i := by omega
  have q := num_ok (run_adv2 n1) kQ
  refine ⟨_, rfl, a, _, dx, _, _, rfl, ob, T.cl_Simulator, T.na_Simulator_states, simF_states l t, _, rfl, l, r, i, rfl, .inl (.inl hS.ls), hf, by omega, fun H' p s6 np hp => ?_⟩
  have pa : p ≠ a := fun z => by
    rw [z, ob] at np
    cases np
  refine ⟨_, rfl, a, _, dx, _, rfl, s6 _ _ ob, T.cl_Simulator, T.na_Simulator_states, by show 2 < 1000; decide, ?_⟩
  rw [simF_ring]
  refine ⟨_, rfl, a, _, dx, _, _, rfl, upd_same, T.cl_Simulator, T.na_Simulator_time, simF_time p t, _, rfl, _, _, rfl, rfl, dx, _, upd_same, by show 2 < 1000; decide, ?_⟩
  rw [simF_add, swap_fin hS np s6 hp]
  refine ⟨_, rfl, a, _, dx, _, _, rfl, upd_same, T.cl_Simulator, T.na_Simulator_states, simF_states p (t + i), p, ringAfter r i, rfl, .inl (.inl ((upd_ne pa).trans hp)), q _ ?_⟩
  exact Left.swap hS np s6 hp (t + i)
theorem ok_Simulator_rotate (T : Txt K mg A) : Good P w K mg base (L2.CX P w) 5 A.f_Simulator_rotate ["self", "distance"] (spNum A 1 opRot) := by
  obtain ⟨fd, F, b⟩ := T.F_Simulator_rotate
  refine ⟨⟨fd, ?_, b⟩, F.kp⟩
  refine F.okX sc_Simulator_rotate (fun vs H Q E h => ?_) (fun cdv Ar outer s H vs Q E hr h => ?_)
  · obtain ⟨a, l, r, t, ns, rfl, hk, _⟩ := h
    obtain ⟨i, rfl⟩ := len1 hk
    rfl
  have nd := sc_Simulator_rotate.nd
  have G_require_at_most := ok_require_at_most (P := P) (w := w) (base := base) T
  have G_rotated := ok_rotated (P := P) (w := w) (base := base) T
  refine ⟨_, (pss_cons (ps_expr (pe_callG G_require_at_most (hr.mono (by decide)) T.g_require_at_most (passes_call (takes_of rfl rfl rfl rfl) fun _ _ _ _ z => z) (pa_cons (pv 1) (pa_cons (pe_gi T.v_GREATEST_DISTANCE) pa_nil))))
    (pss_cons (ps_fld (pv 0) (pe_callG G_rotated (hr.mono (by decide)) T.g_rotated pass0 (pa_cons (pe_fld (pv 0) rfl) (pa_cons (pv 1) pa_nil))) rfl)
    (pss_one (ps_ret (pe_callB call_len_seq (by rfl) T.n_len PySem.boot_len (pa_cons (pe_fld (pv 0) rfl) pa_nil)))))), ?_⟩
  obtain ⟨a, l, r, t, ns, rfl, hk, hS, hf, kE, kQ⟩ := h
  obtain ⟨i, rfl⟩ := len1 hk
  obtain ⟨dx, ob⟩ := hS.ob
  refine ⟨_, rfl, _, _, rfl, fun h1 => ?_, fun h1 => ?_⟩
  · exact num_err (run_rot1 (show 12 < i by omega)) (by decide) kE
  have n1 : ¬ 12 < i := by omega
  have q := num_ok (run_rot2 n1) kQ
  refine ⟨_, rfl, a, _, dx, _, _, rfl, ob, T.cl_Simulator, T.na_Simulator_states, simF_states l t, _, rfl, l, r, i, rfl, .inl (.inl hS.ls), hf, fun H' p s6 np hp => ?_⟩
  have pa : p ≠ a := fun z => by
    rw [z, ob] at np
    cases np
  refine ⟨_, rfl, a, _, dx, _, rfl, s6 _ _ ob, T.cl_Simulator, T.na_Simulator_states, by show 2 < 1000; decide, ?_⟩
  rw [simF_ring]
  refine ⟨_, rfl, a, _, dx, _, _, rfl, upd_same, T.cl_Simulator, T.na_Simulator_states, simF_states p t, p, _, rfl, .inl (.inl (.inl ((upd_ne pa).trans hp))), ?_⟩
  rw [rv_len, rot_len]
  exact q _ (Left.swap hS np s6 hp t)
theorem ok_Simulator_mirror (T : Txt K mg A) : Good P w K mg base CX0 2 A.f_Simulator_mirror ["self"] (spNum A 0 opMir) := by
  obtain ⟨fd, F, b⟩ := T.F_Simulator_mirror
  refine ⟨⟨fd, ?_, b⟩, F.kp⟩
  refine F.ok sc_Simulator_mirror (fun vs H Q E h => ?_) (fun cdv Ar outer s H vs Q E hr h => ?_)
  · obtain ⟨a, l, r, t, ns, rfl, hk, _⟩ := h
    obtain rfl := len0 hk
    rfl
  have nd := sc_Simulator_mirror.nd
  have G_mirrored := ok_mirrored (P := P) (w := w) (base := base) T
  refine ⟨_, (pss_cons (ps_fld (pv 0) (pe_callG G_mirrored (hr.mono (by decide)) T.g_mirrored pass0 (pa_cons (pe_fld (pv 0) rfl) pa_nil)) rfl)
    (pss_one (ps_ret (pe_callB call_len_seq (by rfl) T.n_len PySem.boot_len (pa_cons (pe_fld (pv 0) rfl) pa_nil))))), ?_⟩
  obtain ⟨a, l, r, t, ns, rfl, hk, hS, hf, kE, kQ⟩ := h
  obtain rfl := len0 hk
  obtain ⟨dx, ob⟩ := hS.ob
  have q := num_ok (s := ⟨r, t⟩) (o := .mirror) (s' := ⟨r.reverse, t⟩) (n := r.length) rfl kQ
  refine ⟨_, rfl, a, _, dx, _, _, rfl, ob, T.cl_Simulator, T.na_Simulator_states, simF_states l t, l, r, rfl, .inl (.inl hS.ls), hf, fun H' p s6 np hp => ?_⟩
  have pa : p ≠ a := fun z => by
    rw [z, ob] at np
    cases np
  refine ⟨_, rfl, a, _, dx, _, rfl, s6 _ _ ob, T.cl_Simulator, T.na_Simulator_states, by show 2 < 1000; decide, ?_⟩
  rw [simF_ring]
  refine ⟨_, rfl, a, _, dx, _, _, rfl, upd_same, T.cl_Simulator, T.na_Simulator_states, simF_states p t, p, _, rfl, .inl (.inl (.inl ((upd_ne pa).trans hp))), ?_⟩
  rw [rv_len, List.length_reverse]
  exact q _ (Left.swap hS np s6 hp t)
theorem ok_Simulator_get_section (T : Txt K mg A) : Good P w K mg base (L2.CX P w) 5 A.f_Simulator_get_section ["self", "i"] (spNum A 1 opGet) := by
  obtain ⟨fd, F, b⟩ := T.F_Simulator_get_section
  refine ⟨⟨fd, ?_, b⟩, F.kp⟩
  refine F.okX sc_Simulator_get_section (fun vs H Q E h => ?_) (fun cdv Ar outer s H vs Q E hr h => ?_)
  · obtain ⟨a, l, r, t, ns, rfl, hk, _⟩ := h
    obtain ⟨i, rfl⟩ := len1 hk
    rfl
  have nd := sc_Simulator_get_section.nd
  have G_Simulator_require_section := ok_Simulator_require_section (P := P) (w := w) (base := base) T
  refine ⟨_, (pss_cons (ps_expr (pe_methG (pv 0) T.cl_Simulator T.m_Simulator_require_section G_Simulator_require_section (hr.mono (by decide)) (passes_call (takes_of rfl rfl rfl rfl) fun _ _ _ _ z => z) (pa_cons (pv 1) pa_nil)))
    (pss_one (ps_ret (pe_ix ix_list (pe_fld (pv 0) rfl) (pv 1) (fun _ _ => rfl))))), ?_⟩
  obtain ⟨a, l, r, t, ns, rfl, hk, hS, hf, kE, kQ⟩ := h
  obtain ⟨i, rfl⟩ := len1 hk
  obtain ⟨dx, ob⟩ := hS.ob
  refine ⟨_, rfl, a, dx, _, rfl, ob, simF_no l t (by decide +kernel) (by decide +kernel), _, rfl, a, l, r, t, i, rfl, hS, fun h1 => ?_, fun h1 => ?_⟩
  · exact num_err (run_get1 h1) (by decide) kE
  have n1 : ¬ r.length ≤ i := Nat.not_le_of_lt h1
  have q := num_ok (run_get2 n1) kQ
  have z := rv_at h1
  rw [← state_lt h1] at z
  exact ⟨_, rfl, a, _, dx, _, _, rfl, ob, T.cl_Simulator, T.na_Simulator_states, simF_states l t, _, rfl, l, _, _, _, rfl, rfl, .inl (.inl hS.ls), z, q _ (Left.refl hS)⟩
end
end Sw

set_option Elab.async false
set_option linter.all false
set_option maxRecDepth 100000
set_option maxHeartbeats 4000000
namespace Sw
open PySem PySem.Spec PyProof.Rows L2
open Kv439 (Ring stateAt previousState nextRing ringAfter rotated standing Simulator Response)
theorem rep_flat (n : Nat) : (List.replicate n [V.int 0]).flatten = rv (List.replicate n 0) := by
  unfold rv
  rw [List.map_replicate]
  induction n with
  | zero => rfl
  | succ n ih =>
    rw [List.replicate_succ, List.flatten_cons, ih, List.replicate_succ]
    rfl
def spSetAll (K : PySem.W.Frag) (A : Ad) : Sp := fun vs H Q E => ∃ (a l b : Addr) (r : Ring) (t : Nat) (xs : List Nat),
  vs = [.ref a, .ref b] ∧ SimAt A.c_Simulator H a l r t ∧ Fine r ∧ SqL K H b (rv xs) ∧
  ((Simulator.run ⟨r, t⟩ (.setAll xs)).2.code < 0 → Err E (errC A (Simulator.run ⟨r, t⟩ (.setAll xs)).2.code) (Simulator.run ⟨r, t⟩ (.setAll xs)).2.code H) ∧
  (¬ (Simulator.run ⟨r, t⟩ (.setAll xs)).2.code < 0 → ∀ H', Left A.c_Simulator H H' a l (Simulator.run ⟨r, t⟩ (.setAll xs)).1.ring (Simulator.run ⟨r, t⟩ (.setAll xs)).1.time →
    Q (.int (Simulator.run ⟨r, t⟩ (.setAll xs)).2.code) H')
def spRing (A : Ad) : Sp := fun vs H Q E => ∃ (a l : Addr) (r : Ring) (t : Nat), vs = [.ref a] ∧ SimAt A.c_Simulator H a l r t ∧ Fine r ∧
  ∀ (H' : Hp) (p : Addr), Same H H' → H p = none → H' p = some (.lst (V.int ((r.length : Nat) : Int) :: rv r)) → Q (.ref p) H'
section
variable {P : Program} {w : World} {K : PySem.W.Frag} {mg : Str → Option Value} {base : Heap} {A : Ad}
theorem ok_Simulator_sit_down (T : Txt K mg A) : Good P w K mg base CX0 1 A.f_Simulator_sit_down ["self"] (spNum A 0 opSit) := by
  obtain ⟨fd, F, b⟩ := T.F_Simulator_sit_down
  refine ⟨⟨fd, ?_, b⟩, F.kp⟩
  refine F.ok sc_Simulator_sit_down (fun vs H Q E h => ?_) (fun cdv Ar outer s H vs Q E hr h => ?_)
  · obtain ⟨a, l, r, t, ns, rfl, hk, _⟩ := h
    obtain rfl := len0 hk
    rfl
  have nd := sc_Simulator_sit_down.nd
  refine ⟨_, (pss_cons (ps_set (i := 1) nd rfl (Or.inl rfl) (pe_op op_sub (pe_callB call_len_seq (by rfl) T.n_len PySem.boot_len (pa_cons (pe_fld (pv 0) rfl) pa_nil)) (pe_bm PySem.F.plainAttrs_list PySem.F.slot_list_count PySem.F.type_list_count mt_lcount (pe_fld (pv 0) rfl) (pa_cons (pe_gi T.v_SEATED) pa_nil))))
    (pss_cons (ps_fld (pv 0) (pe_op op_rep (pe_lst (pa_cons (pe_gi T.v_SEATED) pa_nil)) (pe_callB call_len_seq (by rfl) T.n_len PySem.boot_len (pa_cons (pe_fld (pv 0) rfl) pa_nil))) rfl)
    (pss_one (ps_ret (pv 1))))), ?_⟩
  obtain ⟨a, l, r, t, ns, rfl, hk, hS, hf, kE, kQ⟩ := h
  obtain rfl := len0 hk
  obtain ⟨dx, ob⟩ := hS.ob
  have q := num_ok (s := ⟨r, t⟩) (o := .sitDown) (s' := ⟨List.replicate r.length 0, t⟩) (n := (r.filter fun x => x != 0).length) rfl kQ
  have z : SqL K H l ((r.map fun (n : Nat) => (n : Int)).map V.int) := by
    rw [← rv_ints]
    exact .inl (.inl hS.ls)
  have hi := hf.hi
  refine ⟨_, rfl, a, _, dx, _, _, rfl, ob, T.cl_Simulator, T.na_Simulator_states, simF_states l t, l, _, rfl, .inl (.inl (.inl hS.ls)), _, rfl, a, _, dx, _, _, rfl, ob, T.cl_Simulator, T.na_Simulator_states, simF_states l t, .inl ⟨rfl, _, z⟩, l, _, _, rfl, rfl, z, _, _, rfl, rfl, ?_⟩
  refine ⟨by show 1 ≤ sizeLine; decide, fun l0 h0 => ?_⟩
  have al0 : a ≠ l0 := ne_of_none ob h0
  have ll0 : l ≠ l0 := ne_of_none hS.ls h0
  refine ⟨_, rfl, a, _, dx, _, _, rfl, (upd_ne al0).trans ob, T.cl_Simulator, T.na_Simulator_states, simF_states l t, l, _, rfl, .inl (.inl (.inl ((upd_ne ll0).trans hS.ls))), l0, _, _, rfl, rfl, upd_same, ?_, ?_, ?_, fun p np => ?_⟩
  · rw [rv_len]; omega
  · rw [rv_len]; omega
  · rw [rv_len]
    have := small12 hi
    show 1 * ((r.length : Int)).toNat ≤ sizeLine
    rw [Int.toNat_natCast]
    omega
  have pl0 : p ≠ l0 := fun z => by
    rw [z, upd_same] at np
    cases np
  have np0 : H p = none := by
    rw [upd_ne pl0] at np
    exact np
  have pa : a ≠ p := ne_of_none ob np0
  refine ⟨_, rfl, a, _, dx, _, rfl, (upd_ne pa).trans ((upd_ne al0).trans ob), T.cl_Simulator, T.na_Simulator_states, by show 2 < 1000; decide, ?_⟩
  rw [simF_ring]
  refine ⟨_, rfl, ?_⟩
  have cnt := count_ints 0 r
  have e : (((rv r).length : Int) - (((r.map fun (n : Nat) => (n : Int)).count ((0 : Nat) : Int) : Nat) : Int)) = (((r.filter fun x => x != 0).length : Nat) : Int) := by
    rw [cnt, rv_len]
    have := notzero_count r
    omega
  show Q (.int (((rv r).length : Int) - (((r.map fun (n : Nat) => (n : Int)).count ((0 : Nat) : Int) : Nat) : Int))) _
  rw [e]
  refine q _ (Left.swap (r' := List.replicate r.length 0) hS np0 (fun b o e => ?_) ?_ t)
  · rw [upd_ne (ne_of_none e np0), upd_ne (ne_of_none e h0)]
    exact e
  · rw [upd_same]
    refine congrArg (fun z => some (HO.lst z)) ?_
    rw [rv_len]
    show (List.replicate ((r.length : Int)).toNat [V.int 0]).flatten = _
    rw [Int.toNat_natCast]
    exact rep_flat _
theorem ok_Simulator_get_ring (T : Txt K mg A) : Good P w K mg base CX0 1 A.f_Simulator_get_ring ["self"] (spRing A) := by
  obtain ⟨fd, F, b⟩ := T.F_Simulator_get_ring
  refine ⟨⟨fd, ?_, b⟩, F.kp⟩
  refine F.ok sc_Simulator_get_ring (fun vs H Q E h => ?_) (fun cdv Ar outer s H vs Q E hr h => ?_)
  · obtain ⟨a, l, r, t, rfl, _⟩ := h
    rfl
  have nd := sc_Simulator_get_ring.nd
  refine ⟨_, (pss_one (ps_ret (pe_op op_cat (pe_lst (pa_cons (pe_callB call_len_seq (by rfl) T.n_len PySem.boot_len (pa_cons (pe_fld (pv 0) rfl) pa_nil)) pa_nil)) (pe_fld (pv 0) rfl)))), ?_⟩
  obtain ⟨a, l, r, t, rfl, hS, hf, q⟩ := h
  obtain ⟨dx, ob⟩ := hS.ob
  have hi := hf.hi
  refine ⟨_, rfl, a, _, dx, _, _, rfl, ob, T.cl_Simulator, T.na_Simulator_states, simF_states l t, l, _, rfl, .inl (.inl (.inl hS.ls)), by show 1 ≤ sizeLine; decide, fun l0 h0 => ?_⟩
  have al0 : a ≠ l0 := ne_of_none ob h0
  have ll0 : l ≠ l0 := ne_of_none hS.ls h0
  refine ⟨_, rfl, a, _, dx, _, _, rfl, (upd_ne al0).trans ob, T.cl_Simulator, T.na_Simulator_states, simF_states l t, l0, l, _, _, rfl, rfl, upd_same, (upd_ne ll0).trans hS.ls, ?_, fun p np => ?_⟩
  · rw [rv_len]
    have := small12 hi
    have : 13 ≤ sizeLine := by decide
    show 1 + r.length ≤ sizeLine
    omega
  have pl0 : p ≠ l0 := fun z => by
    rw [z, upd_same] at np
    cases np
  have np0 : H p = none := by
    rw [upd_ne pl0] at np
    exact np
  refine q _ p (fun b o e => ?_) np0 ?_
  · rw [upd_ne (ne_of_none e np0), upd_ne (ne_of_none e h0)]
    exact e
  · rw [upd_same, rv_len]
    rfl
theorem ok_Simulator_set_all (T : Txt K mg A) : Good P w K mg base (L2.CX P w) 5 A.f_Simulator_set_all ["self", "states"] (spSetAll K A) := by
  obtain ⟨fd, F, b⟩ := T.F_Simulator_set_all
  refine ⟨⟨fd, ?_, b⟩, F.kp⟩
  refine F.okX sc_Simulator_set_all (fun vs H Q E h => ?_) (fun cdv Ar outer s H vs Q E hr h => ?_)
  · obtain ⟨a, l, b, r, t, xs, rfl, _⟩ := h
    rfl
  have nd := sc_Simulator_set_all.nd
  have G_OutOfRange_init := ok_OutOfRange_init (P := P) (w := w) (base := base) T
  have G_require_at_most := ok_require_at_most (P := P) (w := w) (base := base) T
  refine ⟨_, (pss_cons (ps_if (pt_cmpR op_ne (pe_callB call_len_seq (by rfl) T.n_len PySem.boot_len (pa_cons (pv 1) pa_nil)) (pe_callB call_len_seq (by rfl) T.n_len PySem.boot_len (pa_cons (pe_fld (pv 0) rfl) pa_nil)) (nomark _)) (pss_one (ps_raise rfl (takes_of rfl rfl rfl rfl) (pmk_errG T.e_OutOfRange T.i_OutOfRange T.t_OutOfRange G_OutOfRange_init (hr.mono (by decide)) pass0 T.g_OutOfRange))) pss_nil)
    (pss_cons (ps_for (passes_of rfl) rfl (pi_list (pv 1)) (pg_name (i := 2) nd rfl (Or.inl rfl))
    (pss_one (ps_expr (pe_callG G_require_at_most (hr.mono (by decide)) T.g_require_at_most (passes_call (takes_of rfl rfl rfl rfl) fun _ _ _ _ z => z) (pa_cons (pv 2) (pa_cons (pe_gi T.v_RESTING) pa_nil))))))
    (pss_cons (ps_fld (pv 0) (pe_callTy call_list_of (by rfl) T.n_list (by decide +kernel) (pa_cons (pv 1) pa_nil)) rfl)
    (pss_one (ps_ret pe_int))))), ?_⟩
  obtain ⟨a, l, b, r, t, xs, rfl, hS, hf, hx, kE, kQ⟩ := h
  obtain ⟨dx, ob⟩ := hS.ob
  have hi := hf.hi
  refine ⟨_, rfl, b, _, rfl, .inl hx, _, rfl, a, _, dx, _, _, rfl, ob, T.cl_Simulator, T.na_Simulator_states, simF_states l t, l, _, rfl, .inl (.inl (.inl hS.ls)), rfl, _, rfl, ?_⟩
  rw [rv_len, rv_len]
  refine ite2 (fun c => ?_) (fun c => ?_)
  · have c' : xs.length ≠ r.length := fun z => by
      have y := (vint_ne (a := xs.length) (b := r.length)).symm.trans c
      rw [decide_eq_true z] at y
      cases y
    exact raise_code T.e_OutOfRange (num_err (run_all1 (.inl c')) (by decide) kE)
  have c' : xs.length = r.length := by
    by_cases z : xs.length = r.length
    · exact z
    · exact absurd ((vint_ne (a := xs.length) (b := r.length)).trans (by rw [decide_eq_false z]; rfl)) c
  refine ⟨_, rfl, b, rfl, ⟨_, hx⟩, for_list (K := K) (a := b) (xs := rv xs) (fun i σ H' => ∃ v : Option V, σ = [some (.ref a), some (.ref b), v] ∧ H' = H ∧ ∀ x ∈ xs.take i, x ≤ 2)
    ⟨none, rfl, rfl, fun x hx => absurd hx (by simp)⟩ (fun i σ H' _ ⟨_, _, e, _⟩ => by rw [e]; exact hx) ?_ ?_⟩
  · rintro i y σ H' hy ⟨v, rfl, rfl, small⟩
    have il : i < xs.length := by
      have := (List.getElem?_eq_some_iff.mp hy).1
      rw [rv_len] at this
      exact this
    have ey := (rv_get il).symm.trans hy
    obtain rfl := Option.some.inj ey
    refine ⟨_, rfl, _, _, rfl, fun h1 => ?_, fun h1 => ?_⟩
    · refine num_err (run_all1 (.inr ?_)) (by decide) kE
      refine List.any_eq_true.mpr ⟨_, getD_mem il, decide_eq_true ?_⟩
      omega
    · refine ⟨_, rfl, rfl, fun x hx' => ?_⟩
      rw [List.take_succ, List.mem_append] at hx'
      rcases hx' with z | z
      · exact small x z
      · rw [List.getElem?_eq_getElem il] at z
        have e : x = xs[i] := by simpa using z
        have e2 : xs.getD i 0 = xs[i] := by
          rw [List.getD_eq_getElem?_getD, List.getElem?_eq_getElem il]
          rfl
        rw [e, ← e2]
        omega
  · rintro σ H' ⟨v, rfl, rfl, small⟩
    rw [rv_len, List.take_length] at small
    have no : ¬ (xs.length ≠ r.length ∨ xs.any (fun s => decide (2 < s)) = true) := fun z => by
      rcases z with z | z
      · exact z c'
      · obtain ⟨x, hx1, hx2⟩ := List.any_eq_true.mp z
        have := small x hx1
        have := of_decide_eq_true hx2
        omega
    have q := num_ok (run_all2 no) kQ
    refine ⟨_, rfl, b, _, rfl, .inl hx, fun p np => ?_⟩
    refine ⟨_, rfl, a, _, dx, _, rfl, (upd_ne (ne_of_none ob np)).trans ob, T.cl_Simulator, T.na_Simulator_states, by show 2 < 1000; decide, ?_⟩
    rw [simF_ring]
    exact q _ (Left.swap hS np (fun b o e => (upd_ne (ne_of_none e np)).trans e) upd_same t)
end
end Sw

set_option Elab.async false
set_option linter.all false
set_option maxRecDepth 100000
set_option maxHeartbeats 4000000
namespace Sw
open PySem PySem.Spec PyProof.Rows L2
open Kv439 (Ring stateAt previousState nextRing ringAfter rotated standing Simulator Response trajectory maxSteps stepsUntilQuiet forwardWaves backwardWaves)
open Kv439Neutral (resultRow)
def opAfter (ns : List Nat) : Kv439.Operation := .ringAfter (ns.getD 0 0)
def opWind (_ : List Nat) : Kv439.Operation := .windingNumber
def opQuiet (_ : List Nat) : Kv439.Operation := .stepsUntilQuiet
def opCycle (_ : List Nat) : Kv439.Operation := .cycle
def opFore (_ : List Nat) : Kv439.Operation := .forwardWaves
def opBack (_ : List Nat) : Kv439.Operation := .backwardWaves
def opCount (_ : List Nat) : Kv439.Operation := .standingCount
def opMost (_ : List Nat) : Kv439.Operation := .maxStanding
def opFirst (ns : List Nat) : Kv439.Operation := .firstStanding (ns.getD 0 0)
def opIf (ns : List Nat) : Kv439.Operation := .quietIfStandUp (ns.getD 0 0)
def opState (_ : List Nat) : Kv439.Operation := .getState
/-- a method that only asks, and answers one number: just what the document's operation does -/
def spAsk (A : Ad) (k : Nat) (op : List Nat → Kv439.Operation) : Sp := fun vs H Q E => ∃ (a l : Addr) (r : Ring) (t : Nat) (ns : List Nat),
  vs = .ref a :: ns.map (fun (n : Nat) => V.int (n : Int)) ∧ ns.length = k ∧ SimAt A.c_Simulator H a l r t ∧ Fine r ∧
  ((Simulator.run ⟨r, t⟩ (op ns)).2.code < 0 → ∀ H', Same H H' → Err E (errC A (Simulator.run ⟨r, t⟩ (op ns)).2.code) (Simulator.run ⟨r, t⟩ (op ns)).2.code H') ∧
  (¬ (Simulator.run ⟨r, t⟩ (op ns)).2.code < 0 → ∀ H', Same H H' → Q (.int (Simulator.run ⟨r, t⟩ (op ns)).2.code) H')
/-- .. and answers a list -/
def spAskL (A : Ad) (k : Nat) (op : List Nat → Kv439.Operation) : Sp := fun vs H Q E => ∃ (a l : Addr) (r : Ring) (t : Nat) (ns : List Nat),
  vs = .ref a :: ns.map (fun (n : Nat) => V.int (n : Int)) ∧ ns.length = k ∧ SimAt A.c_Simulator H a l r t ∧ Fine r ∧
  ((Simulator.run ⟨r, t⟩ (op ns)).2.code < 0 → ∀ H', Same H H' → Err E (errC A (Simulator.run ⟨r, t⟩ (op ns)).2.code) (Simulator.run ⟨r, t⟩ (op ns)).2.code H') ∧
  (¬ (Simulator.run ⟨r, t⟩ (op ns)).2.code < 0 → ∀ H' p, Same H H' → H p = none → H' p = some (.lst ((resultRow (Simulator.run ⟨r, t⟩ (op ns)).2).map V.int)) → Q (.ref p) H')
theorem ask_err {E : XK} {A : Ad} {H : Hp} {s s' : Simulator} {o : Kv439.Operation} {n : Int} (e : s.run o = (s', .error n)) (hn : n < 0)
    (k : (s.run o).2.code < 0 → ∀ H', Same H H' → Err E (errC A (s.run o).2.code) (s.run o).2.code H') : ∀ H', Same H H' → Err E (errC A n) n H' := by
  rw [e] at k
  exact k hn
theorem ask_ok {Q : VK} {H : Hp} {s s' : Simulator} {o : Kv439.Operation} {n : Nat} (e : s.run o = (s', .number n))
    (k : ¬ (s.run o).2.code < 0 → ∀ H', Same H H' → Q (.int (s.run o).2.code) H') : ∀ H', Same H H' → Q (.int (n : Int)) H' := by
  rw [e] at k
  refine k ?_
  show ¬ ((n : Int) < 0)
  omega
theorem ask_row {Q : VK} {H : Hp} {s s' : Simulator} {o : Kv439.Operation} {n : Nat} {l : List Int} (e : s.run o = (s', ⟨(n : Nat), l⟩))
    (k : ¬ (s.run o).2.code < 0 → ∀ H' p, Same H H' → H p = none → H' p = some (.lst ((resultRow (s.run o).2).map V.int)) → Q (.ref p) H') :
    ∀ H' p, Same H H' → H p = none → H' p = some (.lst (V.int (n : Int) :: l.map V.int)) → Q (.ref p) H' := by
  rw [e] at k
  refine k ?_
  show ¬ ((n : Int) < 0)
  omega
theorem rv_toInts (r : List Nat) : (Kv439.toInts r).map V.int = rv r := by
  rw [rv_ints]
  rfl
theorem same_upd {H : Hp} {p : Addr} (h : H p = none) (o : HO) : Same H (upd H p o) := fun b x e => (upd_ne (ne_of_none e h)).trans e
section
variable {P : Program} {w : World} {K : PySem.W.Frag} {mg : Str → Option Value} {base : Heap} {A : Ad}
theorem ok_Simulator_ring_after (T : Txt K mg A) : Good P w K mg base (L2.CX P w) 5 A.f_Simulator_ring_after ["self", "steps"] (spAskL A 1 opAfter) := by
  obtain ⟨fd, F, b⟩ := T.F_Simulator_ring_after
  refine ⟨⟨fd, ?_, b⟩, F.kp⟩
  refine F.okX sc_Simulator_ring_after (fun vs H Q E h => ?_) (fun cdv Ar outer s H vs Q E hr h => ?_)
  · obtain ⟨a, l, r, t, ns, rfl, hk, _⟩ := h
    obtain ⟨i, rfl⟩ := len1 hk
    rfl
  have nd := sc_Simulator_ring_after.nd
  have G_require_at_most := ok_require_at_most (P := P) (w := w) (base := base) T
  have G_after_steps := ok_after_steps (P := P) (w := w) (base := base) T
  refine ⟨_, (pss_cons (ps_expr (pe_callG G_require_at_most (hr.mono (by decide)) T.g_require_at_most (passes_call (takes_of rfl rfl rfl rfl) fun _ _ _ _ z => z) (pa_cons (pv 1) (pa_cons (pe_gi T.v_MOST_STEPS) pa_nil))))
    (pss_one (ps_ret (pe_op op_cat (pe_lst (pa_cons (pe_callB call_len_seq (by rfl) T.n_len PySem.boot_len (pa_cons (pe_fld (pv 0) rfl) pa_nil)) pa_nil)) (pe_callG G_after_steps (hr.mono (by decide)) T.g_after_steps pass0 (pa_cons (pe_fld (pv 0) rfl) (pa_cons (pv 1) pa_nil))))))), ?_⟩
  obtain ⟨a, l, r, t, ns, rfl, hk, hS, hf, kE, kQ⟩ := h
  obtain ⟨i, rfl⟩ := len1 hk
  obtain ⟨dx, ob⟩ := hS.ob
  have hi := hf.hi
  refine ⟨_, rfl, _, _, rfl, fun h1 => ?_, fun h1 => ?_⟩
  · exact ask_err (s := ⟨r, t⟩) (o := .ringAfter i) (if_pos (show 40 < i by omega)) (by decide) kE H (Same.refl H)
  have n1 : ¬ 40 < i := by omega
  have q := ask_row (s := ⟨r, t⟩) (o := .ringAfter i) (s' := ⟨r, t⟩) (n := (ringAfter r i).length) (l := Kv439.toInts (ringAfter r i)) (if_neg n1) kQ
  refine ⟨_, rfl, a, _, dx, _, _, rfl, ob, T.cl_Simulator, T.na_Simulator_states, simF_states l t, l, _, rfl, .inl (.inl (.inl hS.ls)), by show 1 ≤ sizeLine; decide, fun l0 h0 => ?_⟩
  have al0 : a ≠ l0 := ne_of_none ob h0
  have ll0 : l ≠ l0 := ne_of_none hS.ls h0
  refine ⟨_, rfl, a, _, dx, _, _, rfl, (upd_ne al0).trans ob, T.cl_Simulator, T.na_Simulator_states, simF_states l t, _, rfl, l, r, i, rfl, SqL.of ((upd_ne ll0).trans hS.ls), hf, by omega, fun H2 p2 s2 n2 e2 => ?_⟩
  have s1 := same_upd h0 (.lst [V.int ((rv r).length : Int)])
  have s3 : Same H H2 := s1.trans s2
  refine ⟨l0, p2, _, _, rfl, rfl, s2 _ _ upd_same, e2, ?_, fun p np => ?_⟩
  · rw [rv_len, rv_len, after_len]
    have : 13 ≤ sizeLine := by decide
    show 1 + r.length ≤ sizeLine
    omega
  refine q _ p (s3.trans (same_upd np _)) (s3.free np) ?_
  rw [upd_same, rv_toInts, rv_len, after_len]
  rfl
theorem ok_Simulator_winding_number (T : Txt K mg A) : Good P w K mg base CX0 3 A.f_Simulator_winding_number ["self"] (spAskL A 0 opWind) := by
  obtain ⟨fd, F, b⟩ := T.F_Simulator_winding_number
  refine ⟨⟨fd, ?_, b⟩, F.kp⟩
  refine F.ok sc_Simulator_winding_number (fun vs H Q E h => ?_) (fun cdv Ar outer s H vs Q E hr h => ?_)
  · obtain ⟨a, l, r, t, ns, rfl, hk, _⟩ := h
    obtain rfl := len0 hk
    rfl
  have nd := sc_Simulator_winding_number.nd
  have G_winding_of := ok_winding_of (P := P) (w := w) (base := base) T
  refine ⟨_, (pss_one (ps_ret (pe_lst (pa_cons pe_int (pa_cons (pe_callG G_winding_of (hr.mono (by decide)) T.g_winding_of pass0 (pa_cons (pe_fld (pv 0) rfl) pa_nil)) pa_nil))))), ?_⟩
  obtain ⟨a, l, r, t, ns, rfl, hk, hS, hf, kE, kQ⟩ := h
  obtain rfl := len0 hk
  obtain ⟨dx, ob⟩ := hS.ob
  have q := ask_row (s := ⟨r, t⟩) (o := .windingNumber) (s' := ⟨r, t⟩) (n := 0) (l := [Kv439.windingNumber r]) rfl kQ
  refine ⟨_, rfl, a, _, dx, _, _, rfl, ob, T.cl_Simulator, T.na_Simulator_states, simF_states l t, l, r, rfl, SqL.of hS.ls, hf, fun H2 s2 => ?_⟩
  refine ⟨by show 2 ≤ sizeLine; decide, fun p np => ?_⟩
  exact q _ p (s2.trans (same_upd np _)) (s2.free np) upd_same
theorem ok_Simulator_steps_until_quiet (T : Txt K mg A) : Good P w K mg base (L2.CX P w) 6 A.f_Simulator_steps_until_quiet ["self"] (spAsk A 0 opQuiet) := by
  obtain ⟨fd, F, b⟩ := T.F_Simulator_steps_until_quiet
  refine ⟨⟨fd, ?_, b⟩, F.kp⟩
  refine F.okX sc_Simulator_steps_until_quiet (fun vs H Q E h => ?_) (fun cdv Ar outer s H vs Q E hr h => ?_)
  · obtain ⟨a, l, r, t, ns, rfl, hk, _⟩ := h
    obtain rfl := len0 hk
    rfl
  have nd := sc_Simulator_steps_until_quiet.nd
  have G_steps_to_quiet := ok_steps_to_quiet (P := P) (w := w) (base := base) T
  refine ⟨_, (pss_one (ps_ret (pe_callG G_steps_to_quiet (hr.mono (by decide)) T.g_steps_to_quiet (passes_call (takes_of rfl rfl rfl rfl) fun _ _ _ _ z => z) (pa_cons (pe_fld (pv 0) rfl) pa_nil)))), ?_⟩
  obtain ⟨a, l, r, t, ns, rfl, hk, hS, hf, kE, kQ⟩ := h
  obtain rfl := len0 hk
  obtain ⟨dx, ob⟩ := hS.ob
  have run : ∀ x, stepsUntilQuiet r = x → Simulator.run ⟨r, t⟩ .stepsUntilQuiet = (⟨r, t⟩, Response.optional x) := fun x e => by rw [← e]; rfl
  exact ⟨_, rfl, a, _, dx, _, _, rfl, ob, T.cl_Simulator, T.na_Simulator_states, simF_states l t, l, r, rfl, SqL.of hS.ls, hf, fun e => ask_err (s := ⟨r, t⟩) (o := .stepsUntilQuiet) (run _ e) (by decide) kE, fun n e => ask_ok (s := ⟨r, t⟩) (o := .stepsUntilQuiet) (run _ e) kQ⟩
theorem ok_Simulator_cycle (T : Txt K mg A) : Good P w K mg base CX0 6 A.f_Simulator_cycle ["self"] (spAskL A 0 opCycle) := by
  obtain ⟨fd, F, b⟩ := T.F_Simulator_cycle
  refine ⟨⟨fd, ?_, b⟩, F.kp⟩
  refine F.ok sc_Simulator_cycle (fun vs H Q E h => ?_) (fun cdv Ar outer s H vs Q E hr h => ?_)
  · obtain ⟨a, l, r, t, ns, rfl, hk, _⟩ := h
    obtain rfl := len0 hk
    rfl
  have nd := sc_Simulator_cycle.nd
  have G_cycle_of := ok_cycle_of (P := P) (w := w) (base := base) T
  refine ⟨_, (pss_one (ps_ret (pe_callG G_cycle_of (hr.mono (by decide)) T.g_cycle_of pass0 (pa_cons (pe_fld (pv 0) rfl) pa_nil)))), ?_⟩
  obtain ⟨a, l, r, t, ns, rfl, hk, hS, hf, kE, kQ⟩ := h
  obtain rfl := len0 hk
  obtain ⟨dx, ob⟩ := hS.ob
  have q := ask_row (s := ⟨r, t⟩) (o := .cycle) (s' := ⟨r, t⟩) (n := (Kv439.cycle r).1) (l := Kv439.toInts [(Kv439.cycle r).2]) rfl kQ
  exact ⟨_, rfl, a, _, dx, _, _, rfl, ob, T.cl_Simulator, T.na_Simulator_states, simF_states l t, l, r, rfl, SqL.of hS.ls, hf, q⟩
theorem ok_Simulator_forward_waves (T : Txt K mg A) : Good P w K mg base CX0 4 A.f_Simulator_forward_waves ["self"] (spAskL A 0 opFore) := by
  obtain ⟨fd, F, b⟩ := T.F_Simulator_forward_waves
  refine ⟨⟨fd, ?_, b⟩, F.kp⟩
  refine F.ok sc_Simulator_forward_waves (fun vs H Q E h => ?_) (fun cdv Ar outer s H vs Q E hr h => ?_)
  · obtain ⟨a, l, r, t, ns, rfl, hk, _⟩ := h
    obtain rfl := len0 hk
    rfl
  have nd := sc_Simulator_forward_waves.nd
  have G_forward_waves_in := ok_forward_waves_in (P := P) (w := w) (base := base) T
  refine ⟨_, (pss_cons (ps_set (i := 1) nd rfl (Or.inl rfl) (pe_callG G_forward_waves_in (hr.mono (by decide)) T.g_forward_waves_in pass0 (pa_cons (pe_fld (pv 0) rfl) pa_nil)))
    (pss_one (ps_ret (pe_op op_cat (pe_lst (pa_cons (pe_callB call_len_seq (by rfl) T.n_len PySem.boot_len (pa_cons (pv 1) pa_nil)) pa_nil)) (pv 1))))), ?_⟩
  obtain ⟨a, l, r, t, ns, rfl, hk, hS, hf, kE, kQ⟩ := h
  obtain rfl := len0 hk
  obtain ⟨dx, ob⟩ := hS.ob
  have hi := hf.hi
  have q := ask_row (s := ⟨r, t⟩) (o := .forwardWaves) (s' := ⟨r, t⟩) (n := (forwardWaves r).length) (l := Kv439.toInts (forwardWaves r)) rfl kQ
  refine ⟨_, rfl, a, _, dx, _, _, rfl, ob, T.cl_Simulator, T.na_Simulator_states, simF_states l t, l, r, rfl, SqL.of hS.ls, hf, fun H2 p2 s2 n2 e2 => ?_⟩
  refine ⟨_, rfl, p2, _, rfl, .inl (SqL.of e2), by show 1 ≤ sizeLine; decide, fun l0 h0 => ?_⟩
  have pl0 : p2 ≠ l0 := ne_of_none e2 h0
  refine ⟨_, rfl, l0, p2, _, _, rfl, rfl, upd_same, (upd_ne pl0).trans e2, ?_, fun p np => ?_⟩
  · rw [rv_len]
    have : 13 ≤ sizeLine := by decide
    have := List.length_filter_le (fun i => stateAt r i == 1 && stateAt r (i + 1) == 0 && previousState r i == 2) (List.range r.length)
    rw [List.length_range] at this
    show 1 + (forwardWaves r).length ≤ sizeLine
    unfold forwardWaves
    omega
  have s3 : Same H _ := s2.trans (same_upd h0 (.lst [V.int ((rv (forwardWaves r)).length : Int)]))
  refine q _ p (s3.trans (same_upd np _)) (s3.free np) ?_
  rw [upd_same, rv_toInts, rv_len]
  rfl
theorem ok_Simulator_backward_waves (T : Txt K mg A) : Good P w K mg base CX0 4 A.f_Simulator_backward_waves ["self"] (spAskL A 0 opBack) := by
  obtain ⟨fd, F, b⟩ := T.F_Simulator_backward_waves
  refine ⟨⟨fd, ?_, b⟩, F.kp⟩
  refine F.ok sc_Simulator_backward_waves (fun vs H Q E h => ?_) (fun cdv Ar outer s H vs Q E hr h => ?_)
  · obtain ⟨a, l, r, t, ns, rfl, hk, _⟩ := h
    obtain rfl := len0 hk
    rfl
  have nd := sc_Simulator_backward_waves.nd
  have G_backward_waves_in := ok_backward_waves_in (P := P) (w := w) (base := base) T
  refine ⟨_, (pss_cons (ps_set (i := 1) nd rfl (Or.inl rfl) (pe_callG G_backward_waves_in (hr.mono (by decide)) T.g_backward_waves_in pass0 (pa_cons (pe_fld (pv 0) rfl) pa_nil)))
    (pss_one (ps_ret (pe_op op_cat (pe_lst (pa_cons (pe_callB call_len_seq (by rfl) T.n_len PySem.boot_len (pa_cons (pv 1) pa_nil)) pa_nil)) (pv 1))))), ?_⟩
  obtain ⟨a, l, r, t, ns, rfl, hk, hS, hf, kE, kQ⟩ := h
  obtain rfl := len0 hk
  obtain ⟨dx, ob⟩ := hS.ob
  have hi := hf.hi
  have q := ask_row (s := ⟨r, t⟩) (o := .backwardWaves) (s' := ⟨r, t⟩) (n := (backwardWaves r).length) (l := Kv439.toInts (backwardWaves r)) rfl kQ
  refine ⟨_, rfl, a, _, dx, _, _, rfl, ob, T.cl_Simulator, T.na_Simulator_states, simF_states l t, l, r, rfl, SqL.of hS.ls, hf, fun H2 p2 s2 n2 e2 => ?_⟩
  refine ⟨_, rfl, p2, _, rfl, .inl (SqL.of e2), by show 1 ≤ sizeLine; decide, fun l0 h0 => ?_⟩
  have pl0 : p2 ≠ l0 := ne_of_none e2 h0
  refine ⟨_, rfl, l0, p2, _, _, rfl, rfl, upd_same, (upd_ne pl0).trans e2, ?_, fun p np => ?_⟩
  · rw [rv_len]
    have : 13 ≤ sizeLine := by decide
    have := List.length_filter_le (fun i => stateAt r i == 1 && previousState r i == 0 && stateAt r (i + 1) == 2) (List.range r.length)
    rw [List.length_range] at this
    show 1 + (backwardWaves r).length ≤ sizeLine
    unfold backwardWaves
    omega
  have s3 : Same H _ := s2.trans (same_upd h0 (.lst [V.int ((rv (backwardWaves r)).length : Int)]))
  refine q _ p (s3.trans (same_upd np _)) (s3.free np) ?_
  rw [upd_same, rv_toInts, rv_len]
  rfl
theorem ok_Simulator_standing_count (T : Txt K mg A) : Good P w K mg base CX0 2 A.f_Simulator_standing_count ["self"] (spAsk A 0 opCount) := by
  obtain ⟨fd, F, b⟩ := T.F_Simulator_standing_count
  refine ⟨⟨fd, ?_, b⟩, F.kp⟩
  refine F.ok sc_Simulator_standing_count (fun vs H Q E h => ?_) (fun cdv Ar outer s H vs Q E hr h => ?_)
  · obtain ⟨a, l, r, t, ns, rfl, hk, _⟩ := h
    obtain rfl := len0 hk
    rfl
  have nd := sc_Simulator_standing_count.nd
  have G_standing_in := ok_standing_in (P := P) (w := w) (base := base) T
  refine ⟨_, (pss_one (ps_ret (pe_callG G_standing_in (hr.mono (by decide)) T.g_standing_in pass0 (pa_cons (pe_fld (pv 0) rfl) pa_nil)))), ?_⟩
  obtain ⟨a, l, r, t, ns, rfl, hk, hS, hf, kE, kQ⟩ := h
  obtain rfl := len0 hk
  obtain ⟨dx, ob⟩ := hS.ob
  have q := ask_ok (s := ⟨r, t⟩) (o := .standingCount) (s' := ⟨r, t⟩) (n := standing r) rfl kQ
  exact ⟨_, rfl, a, _, dx, _, _, rfl, ob, T.cl_Simulator, T.na_Simulator_states, simF_states l t, l, r, rfl, SqL.of hS.ls, q _ (Same.refl _)⟩
theorem ok_Simulator_max_standing (T : Txt K mg A) : Good P w K mg base CX0 5 A.f_Simulator_max_standing ["self"] (spAsk A 0 opMost) := by
  obtain ⟨fd, F, b⟩ := T.F_Simulator_max_standing
  refine ⟨⟨fd, ?_, b⟩, F.kp⟩
  refine F.ok sc_Simulator_max_standing (fun vs H Q E h => ?_) (fun cdv Ar outer s H vs Q E hr h => ?_)
  · obtain ⟨a, l, r, t, ns, rfl, hk, _⟩ := h
    obtain rfl := len0 hk
    rfl
  have nd := sc_Simulator_max_standing.nd
  have G_most_standing := ok_most_standing (P := P) (w := w) (base := base) T
  refine ⟨_, (pss_one (ps_ret (pe_callG G_most_standing (hr.mono (by decide)) T.g_most_standing pass0 (pa_cons (pe_fld (pv 0) rfl) pa_nil)))), ?_⟩
  obtain ⟨a, l, r, t, ns, rfl, hk, hS, hf, kE, kQ⟩ := h
  obtain rfl := len0 hk
  obtain ⟨dx, ob⟩ := hS.ob
  have q := ask_ok (s := ⟨r, t⟩) (o := .maxStanding) (s' := ⟨r, t⟩) (n := ((trajectory r maxSteps).map standing).foldl max 0) rfl kQ
  exact ⟨_, rfl, a, _, dx, _, _, rfl, ob, T.cl_Simulator, T.na_Simulator_states, simF_states l t, l, r, rfl, SqL.of hS.ls, hf, q⟩
theorem ok_Simulator_first_standing (T : Txt K mg A) : Good P w K mg base (L2.CX P w) 6 A.f_Simulator_first_standing ["self", "i"] (spAsk A 1 opFirst) := by
  obtain ⟨fd, F, b⟩ := T.F_Simulator_first_standing
  refine ⟨⟨fd, ?_, b⟩, F.kp⟩
  refine F.okX sc_Simulator_first_standing (fun vs H Q E h => ?_) (fun cdv Ar outer s H vs Q E hr h => ?_)
  · obtain ⟨a, l, r, t, ns, rfl, hk, _⟩ := h
    obtain ⟨i, rfl⟩ := len1 hk
    rfl
  have nd := sc_Simulator_first_standing.nd
  have G_Simulator_require_section := ok_Simulator_require_section (P := P) (w := w) (base := base) T
  have G_steps_to_standing := ok_steps_to_standing (P := P) (w := w) (base := base) T
  refine ⟨_, (pss_cons (ps_expr (pe_methG (pv 0) T.cl_Simulator T.m_Simulator_require_section G_Simulator_require_section (hr.mono (by decide)) (passes_call (takes_of rfl rfl rfl rfl) fun _ _ _ _ z => z) (pa_cons (pv 1) pa_nil)))
    (pss_one (ps_ret (pe_callG G_steps_to_standing (hr.mono (by decide)) T.g_steps_to_standing (passes_call (takes_of rfl rfl rfl rfl) fun _ _ _ _ z => z) (pa_cons (pe_fld (pv 0) rfl) (pa_cons (pv 1) pa_nil)))))), ?_⟩
  obtain ⟨a, l, r, t, ns, rfl, hk, hS, hf, kE, kQ⟩ := h
  obtain ⟨i, rfl⟩ := len1 hk
  obtain ⟨dx, ob⟩ := hS.ob
  refine ⟨_, rfl, a, dx, _, rfl, ob, simF_no l t (by decide +kernel) (by decide +kernel), _, rfl, a, l, r, t, i, rfl, hS, fun h1 => ?_, fun h1 => ?_⟩
  · exact ask_err (s := ⟨r, t⟩) (o := .firstStanding i) (if_pos h1) (by decide) kE H (Same.refl H)
  have n1 : ¬ r.length ≤ i := Nat.not_le_of_lt h1
  have run : ∀ x, (trajectory r maxSteps).findIdx? (fun x => stateAt x i == 1) = x → Simulator.run ⟨r, t⟩ (.firstStanding i) = (⟨r, t⟩, Response.optional x) := fun x e => by
    rw [← e]
    exact if_neg n1
  exact ⟨_, rfl, a, _, dx, _, _, rfl, ob, T.cl_Simulator, T.na_Simulator_states, simF_states l t, _, rfl, l, r, i, rfl, SqL.of hS.ls, hf, h1, fun e => ask_err (s := ⟨r, t⟩) (o := .firstStanding i) (run _ e) (by decide) kE, fun n e => ask_ok (s := ⟨r, t⟩) (o := .firstStanding i) (run _ e) kQ⟩
theorem ok_Simulator_quiet_if_stand_up (T : Txt K mg A) : Good P w K mg base (L2.CX P w) 6 A.f_Simulator_quiet_if_stand_up ["self", "i"] (spAsk A 1 opIf) := by
  obtain ⟨fd, F, b⟩ := T.F_Simulator_quiet_if_stand_up
  refine ⟨⟨fd, ?_, b⟩, F.kp⟩
  refine F.okX sc_Simulator_quiet_if_stand_up (fun vs H Q E h => ?_) (fun cdv Ar outer s H vs Q E hr h => ?_)
  · obtain ⟨a, l, r, t, ns, rfl, hk, _⟩ := h
    obtain ⟨i, rfl⟩ := len1 hk
    rfl
  have nd := sc_Simulator_quiet_if_stand_up.nd
  have G_Simulator_require_section := ok_Simulator_require_section (P := P) (w := w) (base := base) T
  have G_Simulator_require_seated := ok_Simulator_require_seated (P := P) (w := w) (base := base) T
  have G_steps_to_quiet := ok_steps_to_quiet (P := P) (w := w) (base := base) T
  refine ⟨_, (pss_cons (ps_expr (pe_methG (pv 0) T.cl_Simulator T.m_Simulator_require_section G_Simulator_require_section (hr.mono (by decide)) (passes_call (takes_of rfl rfl rfl rfl) fun _ _ _ _ z => z) (pa_cons (pv 1) pa_nil)))
    (pss_cons (ps_expr (pe_methG (pv 0) T.cl_Simulator T.m_Simulator_require_seated G_Simulator_require_seated (hr.mono (by decide)) (passes_call (takes_of rfl rfl rfl rfl) fun _ _ _ _ z => z) (pa_cons (pv 1) pa_nil)))
    (pss_cons (ps_set (i := 2) nd rfl (Or.inl rfl) (pe_callTy call_list_of (by rfl) T.n_list (by decide +kernel) (pa_cons (pe_fld (pv 0) rfl) pa_nil)))
    (pss_cons (ps_asg (pe_gi T.v_STANDING) (pg_sub (pv 2) (pv 1) set_list))
    (pss_one (ps_ret (pe_callG G_steps_to_quiet (hr.mono (by decide)) T.g_steps_to_quiet (passes_call (takes_of rfl rfl rfl rfl) fun _ _ _ _ z => z) (pa_cons (pv 2) pa_nil)))))))), ?_⟩
  obtain ⟨a, l, r, t, ns, rfl, hk, hS, hf, kE, kQ⟩ := h
  obtain ⟨i, rfl⟩ := len1 hk
  obtain ⟨dx, ob⟩ := hS.ob
  refine ⟨_, rfl, a, dx, _, rfl, ob, simF_no l t (by decide +kernel) (by decide +kernel), _, rfl, a, l, r, t, i, rfl, hS, fun h1 => ?_, fun h1 => ?_⟩
  · exact ask_err (s := ⟨r, t⟩) (o := .quietIfStandUp i) (if_pos h1) (by decide) kE H (Same.refl H)
  have n1 : ¬ r.length ≤ i := Nat.not_le_of_lt h1
  refine ⟨_, rfl, a, dx, _, rfl, ob, simF_no l t (by decide +kernel) (by decide +kernel), _, rfl, a, l, r, t, i, rfl, hS, h1, fun h2 => ?_, fun h2 => ?_⟩
  · exact ask_err (s := ⟨r, t⟩) (o := .quietIfStandUp i) ((if_neg n1).trans (if_pos h2)) (by decide) kE H (Same.refl H)
  have run : ∀ x, stepsUntilQuiet (r.set i 1) = x → Simulator.run ⟨r, t⟩ (.quietIfStandUp i) = (⟨r, t⟩, Response.optional x) := fun x e => by
    rw [← e]
    exact (if_neg n1).trans (if_neg fun z => z h2)
  refine ⟨_, rfl, a, _, dx, _, _, rfl, ob, T.cl_Simulator, T.na_Simulator_states, simF_states l t, l, _, rfl, .inl (SqL.of hS.ls), fun p np => ?_⟩
  refine ⟨_, rfl, _, rfl, p, _, _, _, rfl, rfl, upd_same, ixN_nat (by rw [rv_len]; exact h1), ?_⟩
  have e := rv_set (r := r) (i := i) (x := 1)
  have s1 : ∀ o1 o2, Same H (upd (upd H p o1) p o2) := fun o1 o2 b o e => (upd_ne (ne_of_none e np)).trans ((upd_ne (ne_of_none e np)).trans e)
  refine ⟨_, rfl, p, r.set i 1, rfl, SqL.of ?_, hf.set i (by decide), fun e H' s => ask_err (s := ⟨r, t⟩) (o := .quietIfStandUp i) (run _ e) (by decide) kE H' ((s1 _ _).trans s), fun n e H' s => ask_ok (s := ⟨r, t⟩) (o := .quietIfStandUp i) (run _ e) kQ H' ((s1 _ _).trans s)⟩
  rw [upd_same, ← e]
  rfl
theorem ok_Simulator_get_state (T : Txt K mg A) : Good P w K mg base CX0 2 A.f_Simulator_get_state ["self"] (spAskL A 0 opState) := by
  obtain ⟨fd, F, b⟩ := T.F_Simulator_get_state
  refine ⟨⟨fd, ?_, b⟩, F.kp⟩
  refine F.ok sc_Simulator_get_state (fun vs H Q E h => ?_) (fun cdv Ar outer s H vs Q E hr h => ?_)
  · obtain ⟨a, l, r, t, ns, rfl, hk, _⟩ := h
    obtain rfl := len0 hk
    rfl
  have nd := sc_Simulator_get_state.nd
  have G_standing_in := ok_standing_in (P := P) (w := w) (base := base) T
  refine ⟨_, (pss_one (ps_ret (pe_lst (pa_cons (pe_callB call_len_seq (by rfl) T.n_len PySem.boot_len (pa_cons (pe_fld (pv 0) rfl) pa_nil)) (pa_cons (pe_fld (pv 0) rfl) (pa_cons (pe_callG G_standing_in (hr.mono (by decide)) T.g_standing_in pass0 (pa_cons (pe_fld (pv 0) rfl) pa_nil)) pa_nil)))))), ?_⟩
  obtain ⟨a, l, r, t, ns, rfl, hk, hS, hf, kE, kQ⟩ := h
  obtain rfl := len0 hk
  obtain ⟨dx, ob⟩ := hS.ob
  have q := ask_row (s := ⟨r, t⟩) (o := .getState) (s' := ⟨r, t⟩) (n := r.length) (l := Kv439.toInts [t, standing r]) rfl kQ
  refine ⟨_, rfl, a, _, dx, _, _, rfl, ob, T.cl_Simulator, T.na_Simulator_states, simF_states l t, l, _, rfl, .inl (SqL.of hS.ls), _, rfl, a, _, dx, _, _, rfl, ob, T.cl_Simulator, T.na_Simulator_time, simF_time l t, _, rfl, a, _, dx, _, _, rfl, ob, T.cl_Simulator, T.na_Simulator_states, simF_states l t, l, r, rfl, SqL.of hS.ls, ?_⟩
  refine ⟨by show 3 ≤ sizeLine; decide, fun p np => ?_⟩
  refine q _ p (same_upd np _) np ?_
  rw [upd_same, rv_len]
  rfl
end
end Sw

set_option Elab.async false
set_option linter.all false
set_option maxRecDepth 100000
set_option maxHeartbeats 4000000
namespace Sw
open PySem PySem.Spec PyProof.Rows L2
open Kv439 (Ring stateAt previousState nextRing ringAfter rotated standing Simulator Response newSimulator)
open Kv439Neutral (resultRow)
theorem step_on {c : List (List Int)} (m : Simulator) (f : Form c) : Kv439Neutral.step (some m) c = (some (m.run (opOf c)).1, resultRow (m.run (opOf c)).2) := by
  unfold Kv439Neutral.step
  rw [op_of f]
  rfl
theorem step_off {c : List (List Int)} (f : Form c) (h : pn c ≠ 0) : Kv439Neutral.step none c = (none, [-11]) := by
  cases f <;> first | rfl | exact absurd rfl h
theorem step_new1 {st : Kv439.State} {x : Nat} (h : x < 3 ∨ 12 < x) : Kv439Neutral.step st [[0, (x : Int)]] = (st, [-22]) := by
  have e : ∀ m : Simulator, m.run (.create x) = (m, .error (-22)) := fun m => if_pos h
  cases st with
  | none =>
    show (let result := (newSimulator 3).run (.create x); if result.2.code < 0 then ((none : Kv439.State), result.2) else (some result.1, result.2)) |> fun z => (z.1, resultRow z.2) = _
    rw [e]
    rfl
  | some m =>
    rw [step_on m (.create x)]
    show (some (m.run (.create x)).1, resultRow (m.run (.create x)).2) = _
    rw [e]
    rfl
theorem step_new2 {st : Kv439.State} {x : Nat} (h : ¬ (x < 3 ∨ 12 < x)) : Kv439Neutral.step st [[0, (x : Int)]] = (some (newSimulator x), [0]) := by
  have e : ∀ m : Simulator, m.run (.create x) = (newSimulator x, .number 0) := fun m => if_neg h
  cases st with
  | none =>
    show (let result := (newSimulator 3).run (.create x); if result.2.code < 0 then ((none : Kv439.State), result.2) else (some result.1, result.2)) |> fun z => (z.1, resultRow z.2) = _
    rw [e]
    rfl
  | some m =>
    rw [step_on m (.create x)]
    show (some (m.run (.create x)).1, resultRow (m.run (.create x)).2) = _
    rw [e]
    rfl
def sesF (v : V) : List (Str × V) := [("simulator", v)]
theorem sesF_get (v : V) : (sesF v).lookup ("simulator" : Str) = some v := lk_here
theorem sesF_put (v x : V) : putF "simulator" x (sesF v) = sesF x := put_here
theorem sesF_no {m : Str} (v : V) (h : (m == ("simulator" : Str)) = false) : (sesF v).lookup m = none := (lk_past h).trans rfl
/-- at s a session in the state; own: its simulator and the ring -/
inductive SessAt (A : Ad) (H : Hp) (s : Addr) : Kv439.State → List Addr → Prop
  | off (dx : Addr) (ob : H s = some (.ins A.c_Session dx (sesF .non))) : SessAt A H s none []
  | on (dx a l : Addr) (m : Simulator) (ob : H s = some (.ins A.c_Session dx (sesF (.ref a)))) (sim : SimAt A.c_Simulator H a l m.ring m.time)
      (fine : Fine m.ring) (ne : a ≠ s) : SessAt A H s (some m) [a, l]
theorem SessAt.obj {A : Ad} {H : Hp} {s : Addr} {st : Kv439.State} {own : List Addr} (h : SessAt A H s st own) : ∃ dx v, H s = some (.ins A.c_Session dx (sesF v)) := by
  cases h with
  | off dx ob => exact ⟨dx, _, ob⟩
  | on dx a l m ob _ _ _ => exact ⟨dx, _, ob⟩
theorem SessAt.same {A : Ad} {H H' : Hp} {s : Addr} {st : Kv439.State} {own : List Addr} (h : SessAt A H s st own) (k : Same H H') : SessAt A H' s st own := by
  cases h with
  | off dx ob => exact .off dx (k _ _ ob)
  | on dx a l m ob sim fine ne =>
    obtain ⟨⟨d, e1⟩, e2⟩ := sim
    exact .on dx a l m (k _ _ ob) ⟨⟨d, k _ _ e1⟩, k _ _ e2⟩ fine ne
/-- what a call leaves beside the session and what is its own -/
structure Moved (H H' : Hp) (s : Addr) (own own' : List Addr) : Prop where
  keep : ∀ b o, H b = some o → b ≠ s → b ∉ own → H' b = some o
  new : ∀ b ∈ own', b ∈ own ∨ H b = none
  stay : ∀ b, H' b = none → H b = none
theorem Moved.same {H H' : Hp} {s : Addr} {own : List Addr} (k : Same H H') : Moved H H' s own own :=
  ⟨fun b o e _ _ => k b o e, fun b h => .inl h, fun _ e => k.free e⟩
theorem Moved.over {H H1 : Hp} {s p : Addr} {own own' : List Addr} (m : Moved H H1 s own own') (hp : H1 p = none) (o : HO) : Moved H (upd H1 p o) s own own' :=
  ⟨fun b x e hs ho => (upd_ne (ne_of_none (m.keep b x e hs ho) hp)).trans (m.keep b x e hs ho), m.new, stay_upd m.stay⟩
theorem SessAt.over {A : Ad} {H : Hp} {s p : Addr} {st : Kv439.State} {own : List Addr} (h : SessAt A H s st own) (hp : H p = none) (o : HO) : SessAt A (upd H p o) s st own :=
  h.same fun b x e => (upd_ne (ne_of_none e hp)).trans e
def spSesInit (A : Ad) : Sp := fun vs H Q _ => ∃ (p dx : Addr), vs = [.ref p] ∧ H p = some (.ins A.c_Session dx []) ∧
  ∀ (H' : Hp), SessAt A H' p none [] → (∀ b o, H b = some o → b ≠ p → H' b = some o) → Q .non H'
def spCreate (A : Ad) : Sp := fun vs H Q E => ∃ (s : Addr) (st : Kv439.State) (own : List Addr) (n : Nat), vs = [.ref s, .int n] ∧ SessAt A H s st own ∧
  (n < 3 ∨ 12 < n → Err E A.c_OutOfRange (-22) H) ∧
  (¬ (n < 3 ∨ 12 < n) → ∀ H' own', SessAt A H' s (some (newSimulator n)) own' → Moved H H' s own own' → Q (.int 0) H')
/-- a call that a session executes: an error, or the answer as a new list -/
def spExec (A : Ad) : Sp := fun vs H Q E => ∃ (s b : Addr) (st : Kv439.State) (own : List Addr) (c : List (List Int)),
  vs = [.ref s, .int (pn c), .ref b] ∧ SessAt A H s st own ∧ Form c ∧ b ≠ s ∧ b ∉ own ∧ H b = some (.lst ((pa c).map V.int)) ∧
  (∀ n, n < 0 → Kv439Neutral.step st c = (st, [n]) → ∀ H', Same H H' → Err E (errC A n) n H') ∧
  (∀ H' p own', SessAt A H' s (Kv439Neutral.step st c).1 own' → Moved H H' s own own' → H p = none → H' p = some (.lst ((Kv439Neutral.step st c).2.map V.int)) → Q (.ref p) H')
def spAnswer (A : Ad) : Sp := fun vs H Q E => ∃ (s b : Addr) (st : Kv439.State) (own : List Addr) (c : List (List Int)),
  vs = [.ref s, .int (pn c), .ref b] ∧ SessAt A H s st own ∧ Form c ∧ b ≠ s ∧ b ∉ own ∧ H b = some (.lst ((pa c).map V.int)) ∧
  (∀ H' p own', SessAt A H' s (Kv439Neutral.step st c).1 own' → Moved H H' s own own' → H p = none → H' p = some (.lst ((Kv439Neutral.step st c).2.map V.int)) → Q (.ref p) H')
section
variable {P : Program} {w : World} {K : PySem.W.Frag} {mg : Str → Option Value} {base : Heap} {A : Ad}
theorem ok_Session_init (T : Txt K mg A) : Good P w K mg base CX0 1 A.f_Session_init ["self"] (spSesInit A) := by
  obtain ⟨fd, F, b⟩ := T.F_Session_init
  refine ⟨⟨fd, ?_, b⟩, F.kp⟩
  refine F.ok sc_Session_init (fun vs H Q E h => ?_) (fun cdv Ar outer s H vs Q E hr h => ?_)
  · obtain ⟨p, dx, rfl, _⟩ := h
    rfl
  have nd := sc_Session_init.nd
  refine ⟨_, (pss_one (ps_fld (pv 0) pe_non rfl)), ?_⟩
  obtain ⟨p, dx, rfl, hp, q⟩ := h
  refine ⟨_, rfl, p, _, dx, _, rfl, hp, T.cl_Session, T.na_Session_simulator, by show 0 < 1000; decide, q _ (.off dx upd_same) fun b o e hb => (upd_ne hb).trans e⟩
theorem ok_Session_create (T : Txt K mg A) : Good P w K mg base (L2.CX P w) 4 A.f_Session_create ["self", "sections"] (spCreate A) := by
  obtain ⟨fd, F, b⟩ := T.F_Session_create
  refine ⟨⟨fd, ?_, b⟩, F.kp⟩
  refine F.okX sc_Session_create (fun vs H Q E h => ?_) (fun cdv Ar outer s H vs Q E hr h => ?_)
  · obtain ⟨s, st, own, n, rfl, _⟩ := h
    rfl
  have nd := sc_Session_create.nd
  have G_OutOfRange_init := ok_OutOfRange_init (P := P) (w := w) (base := base) T
  have G_Simulator_init := ok_Simulator_init (P := P) (w := w) (base := base) T
  refine ⟨_, (pss_cons (ps_if (PW.pt (pw_or (pt_cmpR op_lt (pv 1) (pe_gi T.v_FEWEST_SECTIONS) (nomark _)) (pw_or1 (pt_cmpR op_gt (pv 1) (pe_gi T.v_MOST_SECTIONS) (nomark _))))) (pss_one (ps_raise rfl (takes_of rfl rfl rfl rfl) (pmk_errG T.e_OutOfRange T.i_OutOfRange T.t_OutOfRange G_OutOfRange_init (hr.mono (by decide)) pass0 T.g_OutOfRange))) pss_nil)
    (pss_cons (ps_fld (pv 0) (pe_makeG T.k_Simulator G_Simulator_init (hr.mono (by decide)) T.g_Simulator pass0 (pa_cons (pv 1) pa_nil)) rfl)
    (pss_one (ps_ret pe_int)))), ?_⟩
  obtain ⟨s, st, own, n, rfl, hS, kE, kQ⟩ := h
  have err : n < 3 ∨ 12 < n → ∀ σ : L2.St, tMkE A.c_OutOfRange (spErrInit K (-22)) σ H (fun cls d H' => E cls d H') := fun c σ => raise_code T.e_OutOfRange (kE c)
  have ok : ¬ (n < 3 ∨ 12 < n) → ∀ x dx, H x = none → H dx = none → dx ≠ x → True := fun _ _ _ _ _ _ => True.intro
  refine ⟨_, rfl, _, _, rfl, rfl, _, rfl, ite2 (fun c1 => ?_) (fun c1 => ?_)⟩
  · refine ite2 (fun _ => ?_) (fun z => absurd rfl z)
    have : (n : Int) < 3 := of_decide_eq_true c1
    exact err (.inl (by omega)) _
  refine ⟨_, rfl, _, _, rfl, rfl, _, rfl, ite2 (fun c2 => ?_) (fun c2 => ?_)⟩
  · have : (12 : Int) < (n : Int) := of_decide_eq_true c2
    exact err (.inr (by omega)) _
  have n1 : ¬ ((n : Int) < 3) := fun z => c1 (decide_eq_true z)
  have n2 : ¬ ((12 : Int) < (n : Int)) := fun z => c2 (decide_eq_true z)
  have no : ¬ (n < 3 ∨ 12 < n) := by omega
  refine ⟨_, rfl, fun x dx nx ndx ne => ?_⟩
  refine ⟨x, dx, n, rfl, upd_same, by omega, fun H1 l S1 nl k1 => ⟨rfl, ?_⟩⟩
  have s1 : Same H H1 := fun b o e => k1 b o ((upd_ne (ne_of_none e nx)).trans ((upd_ne (ne_of_none e ndx)).trans e)) (ne_of_none e nx)
  obtain ⟨ds, v, obs⟩ := hS.obj
  refine ⟨_, rfl, s, _, ds, _, rfl, s1 _ _ obs, T.cl_Session, T.na_Session_simulator, by show 1 < 1000; decide, ?_⟩
  rw [sesF_put]
  have sx : s ≠ x := ne_of_none obs nx
  have sl : s ≠ l := fun z => by
    have := s1 _ _ obs
    rw [z, S1.ls] at this
    cases this
  have hl : H l = none := by
    cases e : H l with
    | none => rfl
    | some o =>
      have z : upd (upd H dx (.own x)) x (.ins A.c_Simulator dx []) l = some o := (upd_ne (ne_of_none e nx)).trans ((upd_ne (ne_of_none e ndx)).trans e)
      rw [z] at nl
      cases nl
  refine kQ no _ [x, l] (.on ds x l (newSimulator n) upd_same ?_ (Fine.rep (by omega) (by omega)) (Ne.symm sx)) ⟨fun b o e hb _ => (upd_ne hb).trans (s1 b o e), fun b hb => ?_, stay_upd fun _ e => s1.free e⟩
  · obtain ⟨⟨d, e1⟩, e2⟩ := S1
    exact ⟨⟨d, (upd_ne (Ne.symm sx)).trans e1⟩, (upd_ne (Ne.symm sl)).trans e2⟩
  · rcases List.mem_cons.mp hb with z | z
    · exact .inr (z ▸ nx)
    · rcases List.mem_cons.mp z with z | z
      · exact .inr (z ▸ hl)
      · cases z
end
end Sw

set_option Elab.async false
set_option linter.all false
set_option maxRecDepth 100000
set_option maxHeartbeats 4000000
namespace Sw
open PySem PySem.Spec PyProof.Rows L2
theorem cut_at {ns : List Int} {i j : Int} {a n : Nat} (hi : i = (a : Int)) (hj : j = ((a + n : Nat) : Int)) (h : a + n ≤ ns.length) :
    cutV (ns.map V.int) (some i) (some j) = ((ns.drop a).take n).map V.int := by
  subst hi hj
  unfold cutV
  rw [HT.sIx_nat, HT.sIx_nat, List.length_map, Nat.min_eq_left h, Nat.min_eq_left (show a ≤ ns.length by omega), Nat.add_sub_cancel_left, List.map_take, List.map_drop]
/-- the pairs that stand for calls, each a tuple of the number and a list of its own -/
structure PairsAt (H0 : Hp) (pl : Addr) (H : Hp) (qs : List V) (cs : List (List (List Int))) : Prop where
  len : qs.length = cs.length
  each : ∀ (i : Nat) (c : List (List Int)), cs[i]? = some c → ∃ q s, qs[i]? = some (V.ref q) ∧ H q = some (.tup [.int (pn c), .ref s]) ∧ H s = some (.lst ((pa c).map V.int)) ∧ s ≠ pl ∧ H0 s = none
theorem PairsAt.nil {H0 : Hp} {pl : Addr} {H : Hp} : PairsAt H0 pl H [] [] := ⟨rfl, fun i c h => by simp at h⟩
theorem PairsAt.more {H0 : Hp} {pl q s : Addr} {H H' : Hp} {qs : List V} {cs : List (List (List Int))} {c : List (List Int)} (p : PairsAt H0 pl H qs cs)
    (k : ∀ b o, H b = some o → b ≠ pl → H' b = some o) (hl : ∃ o, H pl = some (.lst o))
    (hq : H' q = some (.tup [.int (pn c), .ref s])) (hs : H' s = some (.lst ((pa c).map V.int))) (hn : s ≠ pl) (h0 : H0 s = none) : PairsAt H0 pl H' (qs ++ [.ref q]) (cs ++ [c]) := by
  refine ⟨by rw [List.length_append, List.length_append, p.len]; rfl, fun i d h => ?_⟩
  by_cases hi : i < cs.length
  · rw [List.getElem?_append_left hi] at h
    obtain ⟨q', s', e1, e2, e3, e4, e5⟩ := p.each i d h
    refine ⟨q', s', ?_, k _ _ e2 ?_, k _ _ e3 e4, e4, e5⟩
    · rw [List.getElem?_append_left (by rw [p.len]; exact hi)]
      exact e1
    · intro z
      obtain ⟨o, ho⟩ := hl
      rw [z, ho] at e2
      cases e2
  · rw [List.getElem?_append_right (by omega)] at h
    have e : i - cs.length = 0 := by
      cases e : i - cs.length with
      | zero => rfl
      | succ n =>
        rw [e] at h
        simp at h
    rw [e] at h
    obtain rfl : c = d := by simpa using h
    refine ⟨q, s, ?_, hq, hs, hn, h0⟩
    rw [List.getElem?_append_right (by rw [p.len]; omega), p.len, e]
    rfl
def spSplit (K : PySem.W.Frag) : Sp := fun vs H Q _ => ∃ (a : Addr) (ns : List Int) (raw : List (List (List Int))), vs = [.ref a] ∧ SqL K H a (ns.map V.int) ∧
  PyFlat.calls PyKv439.shape ns.length ns = some raw ∧ raw.length ≤ 256 ∧ (∀ c ∈ raw, Kv439Neutral.asked1 c = true) ∧
  ∀ (H' : Hp) (p : Addr) (qs : List V), Same H H' → H p = none → H' p = some (.lst qs) → PairsAt H p H' qs raw → Q (.ref p) H'
theorem arg_counts : ∀ k : Nat, k < 23 → atI [V.int 1, .int 2, .int 0, .int 1, .int 2, .int 0, .int 1, .int 1, .int 0, .int 0, .int 0, .int 1, .int 1, .int 0, .int 0, .int 0, .int 0, .int 0, .int 0, .int 0, .int 1, .int 1, .int 0] (k : Int) = some (V.int ((counts.getD k 0 : Nat) : Int)) := by
  intro k hk
  have : k = 0 ∨ k = 1 ∨ k = 2 ∨ k = 3 ∨ k = 4 ∨ k = 5 ∨ k = 6 ∨ k = 7 ∨ k = 8 ∨ k = 9 ∨ k = 10 ∨ k = 11 ∨ k = 12 ∨ k = 13 ∨ k = 14 ∨ k = 15 ∨ k = 16 ∨ k = 17 ∨ k = 18 ∨ k = 19 ∨ k = 20 ∨ k = 21 ∨ k = 22 := by omega
  rcases this with rfl | rfl | rfl | rfl | rfl | rfl | rfl | rfl | rfl | rfl | rfl | rfl | rfl | rfl | rfl | rfl | rfl | rfl | rfl | rfl | rfl | rfl | rfl <;> rfl
theorem int_get {ns : List Int} {i : Nat} {x : Int} (h : ns[i]? = some x) : atI (ns.map V.int) (i : Int) = some (V.int x) := atI_nat (by rw [List.getElem?_map, h]; rfl)
theorem drop_head {ns : List Int} {i : Nat} {p : Int} {r : List Int} (h : ns.drop i = p :: r) : ns[i]? = some p ∧ ns.drop (i + 1) = r ∧ i + 1 + r.length = ns.length := by
  have hl : i < ns.length := by
    by_cases z : i < ns.length
    · exact z
    · rw [List.drop_eq_nil_of_le (by omega)] at h
      cases h
  have e := List.drop_eq_getElem_cons hl
  rw [e] at h
  obtain ⟨h1, h2⟩ := List.cons.inj h
  refine ⟨by rw [List.getElem?_eq_getElem hl, h1], h2, ?_⟩
  rw [← h2, List.length_drop]
  omega
/-- between two turns: what is read, and the pairs -/
structure SplitAt (ns : List Int) (raw : List (List (List Int))) (H : Hp) (a pl : Addr) (pos : Nat) (σ : L2.St) (H' : Hp) : Prop where
  st : ∃ v3 v4, σ = [some (.ref a), some (.ref pl), some (.int (pos : Int)), v3, v4]
  le : pos ≤ ns.length
  done : ∃ cs rest g qs, raw = cs ++ rest ∧ PyFlat.calls PyKv439.shape g (ns.drop pos) = some rest ∧ H' pl = some (.lst qs) ∧ PairsAt H pl H' qs cs
  same : Same H H'
  new : H pl = none
section
variable {P : Program} {w : World} {K : PySem.W.Frag} {mg : Str → Option Value} {base : Heap} {A : Ad}
theorem ok_split_calls (T : Txt K mg A) : Good P w K mg base CX0 1 A.f_split_calls ["calls"] (spSplit K) := by
  obtain ⟨fd, F, b⟩ := T.F_split_calls
  refine ⟨⟨fd, ?_, b⟩, F.kp⟩
  refine F.ok sc_split_calls (fun vs H Q E h => ?_) (fun cdv Ar outer s H vs Q E hr h => ?_)
  · obtain ⟨a, ns, raw, rfl, _⟩ := h
    rfl
  have nd := sc_split_calls.nd
  refine ⟨_, (pss_cons (ps_set (i := 1) nd rfl (Or.inl rfl) (pe_lst pa_nil))
    (pss_cons (ps_set (i := 2) nd rfl (Or.inl rfl) pe_int)
    (pss_cons (ps_while PassesOwn.never (pt_cmpR op_lt (pv 2) (pe_callB call_len_seq (by rfl) T.n_len PySem.boot_len (pa_cons (pv 0) pa_nil)) (nomark _))
    (pss_cons (ps_set (i := 3) nd rfl (Or.inl rfl) (pe_ix ix_list (pv 0) (pv 2) (fun _ _ => rfl)))
    (pss_cons (ps_aug (i := 2) nd rfl (Or.inl rfl) pe_int ip_add)
    (pss_cons (ps_set (i := 4) nd rfl (Or.inl rfl) (pe_ix ix_tup (pe_glob (v := .ref A.t_ARGUMENT_COUNTS) (by rfl) T.v_ARGUMENT_COUNTS rfl) (pv 3) (fun _ _ => rfl)))
    (pss_cons (ps_if (pt_cmpR op_eq (pv 3) (pe_gi T.v_SET_ALL) (nomark _)) (pss_cons (ps_set (i := 4) nd rfl (Or.inl rfl) (pe_ix ix_list (pv 0) (pv 2) (fun _ _ => rfl)))
    (pss_one (ps_aug (i := 2) nd rfl (Or.inl rfl) pe_int ip_add))) pss_nil)
    (pss_cons (ps_expr (pe_bm PySem.F.plainAttrs_list PySem.F.slot_list_append PySem.F.type_list_append mt_append (pv 1) (pa_cons (pe_tup (pa_cons (pv 3) (pa_cons (pe_slice sl_list (pv 0) (po_some (pv 2)) (po_some (pe_op op_add (pv 2) (pv 4)))) pa_nil))) pa_nil)))
    (pss_one (ps_aug (i := 2) nd rfl (Or.inl rfl) (pv 4) ip_add))))))))
    (pss_one (ps_ret (pv 1)))))), ?_⟩
  obtain ⟨a, ns, raw, rfl, hS, hp, hraw, hask, q⟩ := h
  refine ⟨by show 0 ≤ sizeLine; decide, fun pl hpl => ?_⟩
  refine ⟨fun m σ H' => ∃ pos, m = ns.length - pos ∧ SplitAt ns raw H a pl pos σ H',
    ⟨_, 0, rfl, ⟨none, none, rfl⟩, Nat.zero_le _, ⟨[], raw, ns.length, [], rfl, hp, upd_same, .nil⟩, fun b o e => (upd_ne (ne_of_none e hpl)).trans e, hpl⟩, ?_⟩
  rintro m σ H' ⟨pos, rfl, ⟨v3, v4, rfl⟩, le, ⟨cs, rest, g, qs, er, hc, hq, hP⟩, same, new⟩
  have hS' := same.seq hS
  refine ⟨_, rfl, _, rfl, a, _, rfl, .inl hS', _, _, rfl, rfl, _, rfl, ?_⟩
  refine ite2 (fun c => ?_) (fun c => ?_)
  · have lt : (pos : Int) < ((ns.map V.int).length : Int) := of_decide_eq_true c
    rw [List.length_map] at lt
    refine ⟨fun σ' H2 => ∃ pos', pos < pos' ∧ SplitAt ns raw H a pl pos' σ' H2, fun σ' H2 ⟨pos', l2, i⟩ => ⟨_, by omega, pos', rfl, i⟩, ?_⟩
    cases ed : ns.drop pos with
    | nil =>
      have := congrArg List.length ed
      rw [List.length_drop] at this
      simp at this
      omega
    | cons p r =>
      rw [ed] at hc
      obtain ⟨c1, t, cs1, g1, rfl, hc1, tu⟩ := turn_of hc
      obtain ⟨g0, gr, glen⟩ := drop_head ed
      have hc1in : c1 ∈ raw := by
        rw [er]
        simp
      have few : qs.length < sizeLine := by
        have : qs.length ≤ 256 := by
          rw [hP.len]
          have := congrArg List.length er
          rw [List.length_append] at this
          omega
        exact Nat.lt_of_le_of_lt this (by decide)
      refine ⟨_, rfl, _, rfl, a, _, _, _, rfl, rfl, hS', int_get g0, ?_⟩
      refine ⟨_, rfl, _, _, rfl, rfl, ?_⟩
      cases tu with
      | plain k e lt23 n2 lek ec et =>
        subst e
        refine ⟨_, rfl, A.t_ARGUMENT_COUNTS, _, _, _, rfl, rfl, .inr T.u_ARGUMENT_COUNTS, arg_counts k lt23, ?_⟩
        refine ⟨_, rfl, rfl, _, rfl, ite2 (fun c2 => ?_) (fun c2 => ?_)⟩
        · have : k = 2 := of_decide_eq_true ((vint_eq (b := 2)).symm.trans c2)
          exact absurd this n2
        refine ⟨_, rfl, .inl ⟨rfl, _, .inl (.inl hq)⟩, _, rfl, _, rfl, _, rfl, _, rfl, _, rfl, _, rfl, _, _, rfl, rfl, _, rfl, a, _, rfl, hS', fun s hs => ?_⟩
        refine ⟨by show 2 ≤ sizeLine; decide, fun q hq' => ?_⟩
        have sp : s ≠ pl := fun z => by
          rw [z, hq] at hs
          cases hs
        have qs' : q ≠ s := fun z => by
          rw [z, upd_same] at hq'
          cases hq'
        have hq0 : H' q = none := by
          rw [upd_ne qs'] at hq'
          exact hq'
        have qp : q ≠ pl := fun z => by
          rw [z, hq] at hq0
          cases hq0
        refine ⟨pl, _, _, rfl, rfl, (upd_ne (Ne.symm qp)).trans ((upd_ne (Ne.symm sp)).trans hq), few, ?_⟩
        refine ⟨_, rfl, _, rfl, _, _, rfl, rfl, (pos + 1) + counts.getD k 0, by omega, ⟨_, _, rfl⟩, (by omega), ⟨cs ++ [c1], cs1, g1, _, ?_, ?_, upd_same, ?_⟩, ?_, new⟩
        · rw [er, List.append_assoc]
          rfl
        · rw [show ns.drop (pos + 1 + counts.getD k 0) = t by rw [et, ← gr, List.drop_drop]]
          exact hc1
        · refine hP.more (q := q) (s := s) (fun b o e hb => ?_) ⟨_, hq⟩ ?_ ?_ sp (same.free hs)
          · rw [upd_ne hb, upd_ne (ne_of_none e hq0), upd_ne (ne_of_none e hs)]
            exact e
          · rw [upd_ne qp, upd_same, ec]
            rfl
          · rw [upd_ne sp, upd_ne (Ne.symm qs'), upd_same, ec]
            refine congrArg (fun z => some (HO.lst z)) ((cut_at (a := (pos + 1)) (n := counts.getD k 0) rfl rfl (by omega)).trans (congrArg (List.map V.int) ?_))
            rw [gr]
            show _ = (([(k : Int) :: r.take (counts.getD k 0)] : List (List Int)).headD []).tail ++ _
            simp
        · intro b o e
          have e' := same b o e
          rw [upd_ne (ne_of_none e new), upd_ne (ne_of_none e' hq0), upd_ne (ne_of_none e' hs)]
          exact e'
      | row e m r' er' lem ec et =>
        subst e er'
        obtain ⟨g2, gr2, glen2⟩ := drop_head gr
        refine ⟨_, rfl, A.t_ARGUMENT_COUNTS, _, _, _, rfl, rfl, .inr T.u_ARGUMENT_COUNTS, arg_counts 2 (by decide), ?_⟩
        refine ⟨_, rfl, rfl, _, rfl, ite2 (fun c2 => ?_) (fun c2 => absurd rfl c2)⟩
        refine ⟨_, rfl, _, rfl, a, _, _, _, rfl, rfl, hS', int_get g2, ?_⟩
        refine ⟨_, rfl, _, _, rfl, rfl, ?_⟩
        refine ⟨_, rfl, .inl ⟨rfl, _, .inl (.inl hq)⟩, _, rfl, _, rfl, _, rfl, _, rfl, _, rfl, _, rfl, _, _, rfl, rfl, _, rfl, a, _, rfl, hS', fun s hs => ?_⟩
        refine ⟨by show 2 ≤ sizeLine; decide, fun q hq' => ?_⟩
        have sp : s ≠ pl := fun z => by
          rw [z, hq] at hs
          cases hs
        have qs' : q ≠ s := fun z => by
          rw [z, upd_same] at hq'
          cases hq'
        have hq0 : H' q = none := by
          rw [upd_ne qs'] at hq'
          exact hq'
        have qp : q ≠ pl := fun z => by
          rw [z, hq] at hq0
          cases hq0
        refine ⟨pl, _, _, rfl, rfl, (upd_ne (Ne.symm qp)).trans ((upd_ne (Ne.symm sp)).trans hq), few, ?_⟩
        refine ⟨_, rfl, _, rfl, _, _, rfl, rfl, (pos + 1 + 1) + m, by omega, ⟨_, _, rfl⟩, (by omega), ⟨cs ++ [c1], cs1, g1, _, ?_, ?_, upd_same, ?_⟩, ?_, new⟩
        · rw [er, List.append_assoc]
          rfl
        · rw [show ns.drop (pos + 1 + 1 + m) = t by rw [et, ← gr2, List.drop_drop]]
          exact hc1
        · refine hP.more (q := q) (s := s) (fun b o e hb => ?_) ⟨_, hq⟩ ?_ ?_ sp (same.free hs)
          · rw [upd_ne hb, upd_ne (ne_of_none e hq0), upd_ne (ne_of_none e hs)]
            exact e
          · rw [upd_ne qp, upd_same, ec]
            rfl
          · rw [upd_ne sp, upd_ne (Ne.symm qs'), upd_same, ec]
            refine congrArg (fun z => some (HO.lst z)) ((cut_at (a := (pos + 1 + 1)) (n := m) rfl rfl (by omega)).trans (congrArg (List.map V.int) ?_))
            rw [gr2]
            show _ = [] ++ ([List.take m r'] : List (List Int)).flatten
            simp
        · intro b o e
          have e' := same b o e
          rw [upd_ne (ne_of_none e new), upd_ne (ne_of_none e' hq0), upd_ne (ne_of_none e' hs)]
          exact e'
  · have ge : ¬ ((pos : Int) < ((ns.map V.int).length : Int)) := fun z => c (decide_eq_true z)
    rw [List.length_map] at ge
    rw [List.drop_eq_nil_of_le (by omega)] at hc
    obtain rfl := calls_nil hc
    rw [List.append_nil] at er
    subst er
    exact ⟨_, rfl, q H' pl qs same new hq hP⟩
end
end Sw

set_option Elab.async false
set_option linter.all false
set_option maxRecDepth 100000
set_option maxHeartbeats 4000000
namespace Sw
open PySem PySem.Spec PyProof.Rows L2
open Kv439 (Ring stateAt previousState nextRing ringAfter rotated standing Simulator Response newSimulator)
open Kv439Neutral (resultRow)
/-- every class of an error that a call may raise is one that the session takes -/
theorem err_cls {K : PySem.W.Frag} {mg : Str → Option Value} {A : Ad} (T : Txt K mg A) (n : Int) :
    PySem.W.exmOne K (.ref (errC A n)) (.ref A.c_Refusal) = some true ∧ XfC K (errC A n) ∧ PySem.W.findIn K (.ref (errC A n)) "code" = some none := by
  unfold errC
  split
  · exact ⟨T.x_NoSection, T.xf_NoSection, T.e_NoSection.nc⟩
  · split
    · exact ⟨T.x_NotSeated, T.xf_NotSeated, T.e_NotSeated.nc⟩
    · split
      · exact ⟨T.x_NoSimulator, T.xf_NoSimulator, T.e_NoSimulator.nc⟩
      · split
        · exact ⟨T.x_NeverHappens, T.xf_NeverHappens, T.e_NeverHappens.nc⟩
        · exact ⟨T.x_OutOfRange, T.xf_OutOfRange, T.e_OutOfRange.nc⟩
section
variable {P : Program} {w : World} {K : PySem.W.Frag} {mg : Str → Option Value} {base : Heap} {A : Ad}
theorem ok_Session_answer (T : Txt K mg A) (G_Session_execute : Good P w K mg base (L2.CX P w) 10 A.f_Session_execute ["self", "number", "arguments"] (spExec A)) :
    Good P w K mg base CX0 11 A.f_Session_answer ["self", "number", "arguments"] (spAnswer A) := by
  obtain ⟨fd, F, b⟩ := T.F_Session_answer
  refine ⟨⟨fd, ?_, b⟩, F.kp⟩
  refine F.ok sc_Session_answer (fun vs H Q E h => ?_) (fun cdv Ar outer s H vs Q E hr h => ?_)
  · obtain ⟨s, b, st, own, c, rfl, _⟩ := h
    rfl
  have nd := sc_Session_answer.nd
  refine ⟨_, (pss_one (ps_try_as (i := 3) (Wout := fun _ _ _ _ => False) rfl rfl nd rfl rfl ⟨rfl, by decide, Or.inl T.g_Refusal⟩ takes0
    (fun W pn xe tk _ => (pss_one (ps_ret (pe_methGS (pv 0) T.cl_Session T.m_Session_execute G_Session_execute (hr.mono (by decide)) (fun σ => passAt tk σ) (pa_cons (pv 1) (pa_cons (pv 2) pa_nil))))))
    (fun a oe cls d pn hz hf => (pss_one (ps_ret (pe_lst (pa_cons (pe_errF hz hf (pv 3)) pa_nil))))))), ?_⟩
  obtain ⟨s, b, st, own, c, rfl, hS, hf, bs, bo, hb, q⟩ := h
  obtain ⟨ds, v, obs⟩ := hS.obj
  refine ⟨_, rfl, s, ds, _, rfl, obs, sesF_no v (by decide +kernel), _, rfl, _, rfl, s, b, st, own, c, rfl, hS, hf, bs, bo, hb, fun n hn he H1 s1 => ?_, fun H' p own' S' M hp hp' => ?_⟩
  · intro d hd
    obtain ⟨x1, x2, x3⟩ := err_cls T n
    refine ⟨true, x1, fun _ a0 na => ?_, fun z => Bool.noConfusion z⟩
    refine ⟨_, rfl, rfl, _, d, _, .int n, rfl, x2, x3, rfl, upd_same, lk_here, by show 1 ≤ sizeLine; decide, fun p hp => ?_⟩
    have pd : p ≠ d := fun z => by
      rw [z, upd_same] at hp
      cases hp
    have hp0 : H1 p = none := by
      rw [upd_ne pd] at hp
      exact hp
    rw [he] at q
    refine q _ p own (((hS.same s1).over hd _).over hp _) ((Moved.over (Moved.same s1) hd _).over hp _) (s1.free hp0) ?_
    rw [upd_same]
    rfl
  · exact q H' p own' S' M hp hp'
end
def spAns (K : PySem.W.Frag) : Sp := fun vs H Q _ => ∃ (a : Addr) (ns : List Int), vs = [.ref a] ∧ SqL K H a (ns.map V.int) ∧ PyKv439.answers_asked ns = true ∧
  ∀ (H' : Hp) (p : Addr), H' p = some (.lst ((PyKv439.answers ns).map V.int)) → Q (.ref p) H'
theorem SessAt.put {A : Ad} {H : Hp} {s b : Addr} {st : Kv439.State} {own : List Addr} (h : SessAt A H s st own) (h1 : b ≠ s) (h2 : b ∉ own) (o : HO) :
    SessAt A (upd H b o) s st own := by
  cases h with
  | off dx ob => exact .off dx ((upd_ne (Ne.symm h1)).trans ob)
  | on dx a l m ob sim fine ne =>
    obtain ⟨⟨d, e1⟩, e2⟩ := sim
    have n1 : a ≠ b := fun z => h2 (by rw [← z]; simp)
    have n2 : l ≠ b := fun z => h2 (by rw [← z]; simp)
    exact .on dx a l m ((upd_ne (Ne.symm h1)).trans ob) ⟨⟨d, (upd_ne n1).trans e1⟩, (upd_ne n2).trans e2⟩ fine ne
/-- between two calls: the session, the answers so far, and that all else stands -/
structure Mid (A : Ad) (H1 : Hp) (a s ans : Addr) (l : List (List (List Int))) (σ : L2.St) (H : Hp) : Prop where
  st : ∃ v3 v4 v5, σ = [some (.ref a), some (.ref s), some (.ref ans), v3, v4, v5]
  rest : ∃ own, SessAt A H s (playedS none l) own ∧ ans ∉ own ∧ H ans = some (.lst ((toldS none l).map V.int)) ∧ ∀ b o, H1 b = some o → b ≠ s → b ≠ ans → H b = some o ∧ b ∉ own
section
variable {P : Program} {w : World} {K : PySem.W.Frag} {mg : Str → Option Value} {base : Heap} {A : Ad}
theorem ok_answers {fd : FuncData} (T : Txt K mg A) (F : Fun K "answers" "answers" s_answers A.f_answers fd)
    (G_Session_execute : Good P w K mg base (L2.CX P w) 10 A.f_Session_execute ["self", "number", "arguments"] (spExec A)) :
    FnOk P w K mg base CX0 20 A.f_answers fd ["calls"] (spAns K) := by
  refine F.ok sc_answers (fun vs H Q E h => ?_) (fun cdv Ar outer s H vs Q E hr h => ?_)
  · obtain ⟨a, ns, rfl, _⟩ := h
    rfl
  have nd := sc_answers.nd
  have G_Session_init := ok_Session_init (P := P) (w := w) (base := base) T
  have G_Session_answer := ok_Session_answer T G_Session_execute
  have G_split_calls := ok_split_calls (P := P) (w := w) (base := base) T
  refine ⟨_, (pss_cons (ps_set (i := 1) nd rfl (Or.inl rfl) (pe_makeG0 T.k_Session G_Session_init (hr.mono (by decide)) T.g_Session pass0))
    (pss_cons (ps_set (i := 2) nd rfl (Or.inl rfl) (pe_lst pa_nil))
    (pss_cons (ps_for PassesOwn.never rfl (pi_list (pe_callG G_split_calls (hr.mono (by decide)) T.g_split_calls pass0 (pa_cons (pv 0) pa_nil))) (pg_tup rfl (pgs_cons (pg_name (i := 3) nd rfl (Or.inl rfl)) (pgs_cons (pg_name (i := 4) nd rfl (Or.inl rfl)) pgs_nil)))
    (pss_cons (ps_set (i := 5) nd rfl (Or.inl rfl) (pe_methG (pv 1) T.cl_Session T.m_Session_answer G_Session_answer (hr.mono (by decide)) pass0 (pa_cons (pv 3) (pa_cons (pv 4) pa_nil))))
    (pss_cons (ps_expr (pe_bm PySem.F.plainAttrs_list PySem.F.slot_list_append PySem.F.type_list_append mt_append (pv 2) (pa_cons (pe_callB call_len_seq (by rfl) T.n_len PySem.boot_len (pa_cons (pv 5) pa_nil)) pa_nil)))
    (pss_one (ps_expr (pe_bm PySem.F.plainAttrs_list PySem.F.slot_list_extend PySem.F.type_list_extend mt_extend (pv 2) (pa_cons (pv 5) pa_nil)))))))
    (pss_one (ps_ret (pv 2)))))), ?_⟩
  obtain ⟨a, ns, rfl, hS, hask, q⟩ := h
  obtain ⟨raw, R⟩ := asked_of hask
  rw [answers_of R, told_eq] at q
  have short := R.short
  rw [told_eq] at short
  intro s dx ns0 ndx ne
  refine ⟨s, dx, rfl, upd_same, fun H0 S0 k0 => ⟨rfl, ?_⟩⟩
  have s0 : Same H H0 := fun b o e => k0 b o ((upd_ne (ne_of_none e ns0)).trans ((upd_ne (ne_of_none e ndx)).trans e)) (ne_of_none e ns0)
  refine ⟨by show 0 ≤ sizeLine; decide, fun ans na => ?_⟩
  obtain ⟨ds, v0, obs⟩ := S0.obj
  have sa : s ≠ ans := ne_of_none obs na
  have s1 : Same H0 (upd H0 ans (.lst [])) := fun b o e => (upd_ne (ne_of_none e na)).trans e
  refine ⟨_, rfl, a, ns, raw, rfl, s1.seq (s0.seq hS), R.parse, R.few, R.each, fun H1 p qs s2 np hp hP => ?_⟩
  have pa : p ≠ ans := fun z => by
    rw [z, upd_same] at np
    cases np
  have ps : p ≠ s := fun z => by
    rw [z, upd_ne sa, obs] at np
    cases np
  refine ⟨p, rfl, ⟨_, .inl (.inl hp)⟩, for_list (K := K) (a := p) (xs := qs) (fun i σ H' => Mid A H1 a s ans (raw.take i) σ H') ?_ (fun i σ H' _ M => ?_) ?_ ?_⟩
  · refine ⟨⟨none, none, none, rfl⟩, [], (S0.same s1).same s2, by simp, s2 _ _ upd_same, fun b o e _ _ => ⟨e, by simp⟩⟩
  · obtain ⟨own, _, _, _, k⟩ := M.rest
    exact .inl (.inl (k p _ hp ps pa).1)
  · intro i y σ H' hy M
    obtain ⟨⟨v3, v4, v5, rfl⟩, own, S, no, ha, k⟩ := M
    have il : i < raw.length := by
      have := (List.getElem?_eq_some_iff.mp hy).1
      rw [hP.len] at this
      exact this
    obtain ⟨c, hc⟩ : ∃ c, raw[i]? = some c := ⟨_, List.getElem?_eq_getElem il⟩
    obtain ⟨q1, b1, e1, e2, e3, e4, e5⟩ := hP.each i c hc
    obtain rfl := Option.some.inj (e1.symm.trans hy)
    have hf : Form c := form_of (R.each c (List.mem_of_getElem? hc))
    obtain ⟨ds1, v1, ob1⟩ := S.obj
    have obs1 : ∃ d v, H1 s = some (.ins A.c_Session d (sesF v)) := ⟨ds, v0, s2 _ _ ((upd_ne sa).trans obs)⟩
    have q1s : q1 ≠ s := fun z => by
      obtain ⟨d, v, e⟩ := obs1
      rw [z, e] at e2
      cases e2
    have hansk : H1 ans = some (.lst []) := s2 _ _ upd_same
    have q1a : q1 ≠ ans := fun z => by
      rw [z, hansk] at e2
      cases e2
    have b1s : b1 ≠ s := fun z => by
      obtain ⟨d, v, e⟩ := obs1
      rw [z, e] at e3
      cases e3
    have b1a : b1 ≠ ans := fun z => by
      rw [z, upd_same] at e5
      cases e5
    obtain ⟨e2', _⟩ := k q1 _ e2 q1s q1a
    obtain ⟨e3', b1o⟩ := k b1 _ e3 b1s b1a
    have step := take_more hc
    have told := told_more (raw.take i) none c
    rw [← step] at told
    have len : (toldS none (raw.take (i + 1))).length ≤ 10000000 := by
      have e := told_append (raw.take (i + 1)) (raw.drop (i + 1)) none
      rw [List.take_append_drop] at e
      have := congrArg List.length e
      rw [List.length_append] at this
      have z : (toldS none raw).length ≤ 10000000 := short
      omega
    have tlen := congrArg List.length told
    rw [List.length_append, List.length_cons] at tlen
    have big : 10000001 ≤ sizeLine := by decide
    refine ⟨q1, _, rfl, .inl (.inl e2'), rfl, _, _, rfl, _, _, rfl, rfl, ?_⟩
    refine ⟨_, rfl, s, ds1, _, rfl, ob1, sesF_no v1 (by decide +kernel), _, rfl, _, rfl, s, b1, playedS none (raw.take i), own, c, rfl, S, hf, b1s, b1o, e3', fun H2 p2 own' S2 M np2 hp2 => ?_⟩
    have ha2 := M.keep _ _ ha (Ne.symm sa) no
    have no' : ans ∉ own' := fun z => by
      rcases M.new _ z with y | y
      · exact no y
      · rw [ha] at y
        cases y
    have p2a : p2 ≠ ans := fun z => by
      rw [z, ha] at np2
      cases np2
    refine ⟨_, rfl, .inl ⟨rfl, _, .inl (.inl ha2)⟩, _, rfl, p2, _, rfl, .inl (.inl (.inl hp2)), ans, _, _, rfl, rfl, ha2, ?_, ?_⟩
    · rw [List.length_map]
      omega
    refine ⟨_, rfl, .inl ⟨rfl, _, .inl (.inl upd_same)⟩, _, rfl, ans, p2, _, _, rfl, rfl, upd_same, (upd_ne p2a).trans hp2, ?_, ?_⟩
    · rw [List.length_append, List.length_map, List.length_map]
      show (toldS none (raw.take i)).length + 1 + _ ≤ sizeLine
      omega
    refine ⟨⟨_, _, _, rfl⟩, own', ?_, no', ?_, fun b o e h1 h2 => ?_⟩
    · rw [step, played_more]
      exact (S2.put (Ne.symm sa) no' _).put (Ne.symm sa) no' _
    · rw [upd_same, told]
      refine congrArg (fun z => some (HO.lst z)) ?_
      rw [List.map_append, List.map_cons, List.length_map, List.append_assoc]
      rfl
    · obtain ⟨x1, x2⟩ := k b o e h1 h2
      refine ⟨(upd_ne h2).trans ((upd_ne h2).trans (M.keep b o x1 h1 x2)), fun z => ?_⟩
      rcases M.new _ z with y | y
      · exact x2 y
      · rw [x1] at y
        cases y
  · intro σ H' M
    obtain ⟨⟨v3, v4, v5, rfl⟩, own, S, no, ha, k⟩ := M
    rw [hP.len, List.take_length] at ha
    exact ⟨_, rfl, q H' ans ha⟩
end
end Sw

set_option Elab.async false
set_option linter.all false
set_option maxRecDepth 100000
set_option maxHeartbeats 4000000
namespace Sw
open PySem PySem.Spec PyProof.Rows L2
open Kv439 (Ring stateAt previousState nextRing ringAfter rotated standing Simulator Response newSimulator)
open Kv439Neutral (resultRow)
/-- a call that the simulator executes -/
def spDisp (A : Ad) (ok : Int → Prop) : Sp := fun vs H Q E => ∃ (a l b : Addr) (m : Simulator) (c : List (List Int)),
  vs = [.ref a, .int (pn c), .ref b] ∧ Form c ∧ ok (pn c) ∧ SimAt A.c_Simulator H a l m.ring m.time ∧ Fine m.ring ∧ H b = some (.lst ((pa c).map V.int)) ∧
  ((m.run (opOf c)).2.code < 0 → ∀ H', Same H H' → Err E (errC A (m.run (opOf c)).2.code) (m.run (opOf c)).2.code H') ∧
  (¬ (m.run (opOf c)).2.code < 0 → ∀ H' p, Left A.c_Simulator H H' a l (m.run (opOf c)).1.ring (m.run (opOf c)).1.time → H p = none →
    H' p = some (.lst ((resultRow (m.run (opOf c)).2).map V.int)) → Q (.ref p) H')
/-- the answer of one number is laid into a list -/
theorem one_row {A : Ad} {H : Hp} {a l : Addr} {m : Simulator} {o : Kv439.Operation} {Q : VK} (hv : (m.run o).2.values = [])
    (k : ¬ (m.run o).2.code < 0 → ∀ H' p, Left A.c_Simulator H H' a l (m.run o).1.ring (m.run o).1.time → H p = none →
      H' p = some (.lst ((resultRow (m.run o).2).map V.int)) → Q (.ref p) H') :
    ¬ (m.run o).2.code < 0 → ∀ H', Left A.c_Simulator H H' a l (m.run o).1.ring (m.run o).1.time →
      [V.int (m.run o).2.code].length ≤ sizeLine ∧ ∀ p, H' p = none → Q (.ref p) (upd H' p (.lst [V.int (m.run o).2.code])) := fun n H' L =>
  ⟨by show 1 ≤ sizeLine; decide, fun p hp => k n _ p (L.over hp _) (L.stay p hp) (by rw [upd_same, row_one hv]; rfl)⟩
/-- a simulator that was only asked -/
theorem Left.asked {C : Addr} {H H' : Hp} {a l : Addr} {r : Ring} {t : Nat} (s : SimAt C H a l r t) (k : Same H H') : Left C H H' a l r t := by
  obtain ⟨⟨dx, e1⟩, e2⟩ := s
  exact ⟨⟨l, ⟨⟨dx, k _ _ e1⟩, k _ _ e2⟩, .inl rfl⟩, fun b o e _ _ => k b o e, fun _ e => k.free e⟩
theorem ask_num {A : Ad} {H : Hp} {a l : Addr} {m : Simulator} {o : Kv439.Operation} {Q : VK} (hm : (m.run o).1 = m) (hv : (m.run o).2.values = []) (hS : SimAt A.c_Simulator H a l m.ring m.time)
    (k : ¬ (m.run o).2.code < 0 → ∀ H' p, Left A.c_Simulator H H' a l (m.run o).1.ring (m.run o).1.time → H p = none →
      H' p = some (.lst ((resultRow (m.run o).2).map V.int)) → Q (.ref p) H') :
    ¬ (m.run o).2.code < 0 → ∀ H', Same H H' →
      [V.int (m.run o).2.code].length ≤ sizeLine ∧ ∀ p, H' p = none → Q (.ref p) (upd H' p (.lst [V.int (m.run o).2.code])) := fun n H' s =>
  one_row hv k n H' (by rw [hm]; exact Left.asked hS s)
theorem ask_list {A : Ad} {H : Hp} {a l : Addr} {m : Simulator} {o : Kv439.Operation} {Q : VK} (hm : (m.run o).1 = m) (hS : SimAt A.c_Simulator H a l m.ring m.time)
    (k : ¬ (m.run o).2.code < 0 → ∀ H' p, Left A.c_Simulator H H' a l (m.run o).1.ring (m.run o).1.time → H p = none →
      H' p = some (.lst ((resultRow (m.run o).2).map V.int)) → Q (.ref p) H') :
    ¬ (m.run o).2.code < 0 → ∀ H' p, Same H H' → H p = none → H' p = some (.lst ((resultRow (m.run o).2).map V.int)) → Q (.ref p) H' := fun n H' p s np hp =>
  k n H' p (by rw [hm]; exact Left.asked hS s) np hp
theorem vals_opt (r : Ring) (t : Nat) (x : Option Nat) : (Response.optional x).values = [] := by
  cases x <;> rfl
theorem run_after (r : Ring) (t x : Nat) : (Simulator.run ⟨r, t⟩ (.ringAfter x)).1 = ⟨r, t⟩ := by
  by_cases h : 40 < x
  · exact congrArg Prod.fst (show Simulator.run ⟨r, t⟩ (.ringAfter x) = (⟨r, t⟩, .error (-22)) from if_pos h)
  · exact congrArg Prod.fst (show Simulator.run ⟨r, t⟩ (.ringAfter x) = (⟨r, t⟩, .list (ringAfter r x)) from if_neg h)
theorem run_first (r : Ring) (t x : Nat) : (Simulator.run ⟨r, t⟩ (.firstStanding x)).1 = ⟨r, t⟩ ∧ (Simulator.run ⟨r, t⟩ (.firstStanding x)).2.values = [] := by
  by_cases h : r.length ≤ x
  · have e : Simulator.run ⟨r, t⟩ (.firstStanding x) = (⟨r, t⟩, .error (-2)) := if_pos h
    rw [e]
    exact ⟨rfl, rfl⟩
  · have e : Simulator.run ⟨r, t⟩ (.firstStanding x) = (⟨r, t⟩, .optional ((Kv439.trajectory r Kv439.maxSteps).findIdx? fun y => stateAt y x == 1)) := if_neg h
    rw [e]
    exact ⟨rfl, vals_opt r t _⟩
theorem run_if (r : Ring) (t x : Nat) : (Simulator.run ⟨r, t⟩ (.quietIfStandUp x)).1 = ⟨r, t⟩ ∧ (Simulator.run ⟨r, t⟩ (.quietIfStandUp x)).2.values = [] := by
  by_cases h : r.length ≤ x
  · have e : Simulator.run ⟨r, t⟩ (.quietIfStandUp x) = (⟨r, t⟩, .error (-2)) := if_pos h
    rw [e]
    exact ⟨rfl, rfl⟩
  · by_cases h2 : stateAt r x ≠ 0
    · have e : Simulator.run ⟨r, t⟩ (.quietIfStandUp x) = (⟨r, t⟩, .error (-17)) := (if_neg h).trans (if_pos h2)
      rw [e]
      exact ⟨rfl, rfl⟩
    · have e : Simulator.run ⟨r, t⟩ (.quietIfStandUp x) = (⟨r, t⟩, .optional (Kv439.stepsUntilQuiet (r.set x 1))) := (if_neg h).trans (if_neg h2)
      rw [e]
      exact ⟨rfl, vals_opt r t _⟩
theorem pn_two {c : List (List Int)} (f : Form c) (h : pn c ≠ 0) : (1 ≤ pn c ∧ pn c ≤ 9) ∨ (10 ≤ pn c ∧ pn c ≤ 22) := by
  cases f with
  | create x => exact absurd rfl h
  | setSection x y => exact .inl (show (1 : Int) ≤ 1 ∧ (1 : Int) ≤ 9 by decide)
  | setAll l => exact .inl (show (1 : Int) ≤ 2 ∧ (2 : Int) ≤ 9 by decide)
  | standUp x => exact .inl (show (1 : Int) ≤ 3 ∧ (3 : Int) ≤ 9 by decide)
  | startWave x y => exact .inl (show (1 : Int) ≤ 4 ∧ (4 : Int) ≤ 9 by decide)
  | step => exact .inl (show (1 : Int) ≤ 5 ∧ (5 : Int) ≤ 9 by decide)
  | advance x => exact .inl (show (1 : Int) ≤ 6 ∧ (6 : Int) ≤ 9 by decide)
  | rotate x => exact .inl (show (1 : Int) ≤ 7 ∧ (7 : Int) ≤ 9 by decide)
  | mirror => exact .inl (show (1 : Int) ≤ 8 ∧ (8 : Int) ≤ 9 by decide)
  | sitDown => exact .inl (show (1 : Int) ≤ 9 ∧ (9 : Int) ≤ 9 by decide)
  | getRing => exact .inr (show (10 : Int) ≤ 10 ∧ (10 : Int) ≤ 22 by decide)
  | getSection x => exact .inr (show (10 : Int) ≤ 11 ∧ (11 : Int) ≤ 22 by decide)
  | ringAfter x => exact .inr (show (10 : Int) ≤ 12 ∧ (12 : Int) ≤ 22 by decide)
  | windingNumber => exact .inr (show (10 : Int) ≤ 13 ∧ (13 : Int) ≤ 22 by decide)
  | stepsUntilQuiet => exact .inr (show (10 : Int) ≤ 14 ∧ (14 : Int) ≤ 22 by decide)
  | cycle => exact .inr (show (10 : Int) ≤ 15 ∧ (15 : Int) ≤ 22 by decide)
  | forwardWaves => exact .inr (show (10 : Int) ≤ 16 ∧ (16 : Int) ≤ 22 by decide)
  | backwardWaves => exact .inr (show (10 : Int) ≤ 17 ∧ (17 : Int) ≤ 22 by decide)
  | standingCount => exact .inr (show (10 : Int) ≤ 18 ∧ (18 : Int) ≤ 22 by decide)
  | maxStanding => exact .inr (show (10 : Int) ≤ 19 ∧ (19 : Int) ≤ 22 by decide)
  | firstStanding x => exact .inr (show (10 : Int) ≤ 20 ∧ (20 : Int) ≤ 22 by decide)
  | quietIfStandUp x => exact .inr (show (10 : Int) ≤ 21 ∧ (21 : Int) ≤ 22 by decide)
  | getState => exact .inr (show (10 : Int) ≤ 22 ∧ (22 : Int) ≤ 22 by decide)
theorem miss {k j : Int} (h : k ≠ j) : ¬ decide (V.int k = V.int j) = true := fun z => h (by
  have := of_decide_eq_true z
  injection this)
section
variable {P : Program} {w : World} {K : PySem.W.Frag} {mg : Str → Option Value} {base : Heap} {A : Ad}
theorem ok_answer_change (T : Txt K mg A) : Good P w K mg base (L2.CX P w) 6 A.f_answer_change ["simulator", "number", "arguments"] (spDisp A (fun n => 1 ≤ n ∧ n ≤ 9)) := by
  obtain ⟨fd, F, b⟩ := T.F_answer_change
  refine ⟨⟨fd, ?_, b⟩, F.kp⟩
  refine F.okX sc_answer_change (fun vs H Q E h => ?_) (fun cdv Ar outer s H vs Q E hr h => ?_)
  · obtain ⟨a, l, b, m, c, rfl, _⟩ := h
    rfl
  have nd := sc_answer_change.nd
  have G_Simulator_set_section := ok_Simulator_set_section (P := P) (w := w) (base := base) T
  have G_Simulator_set_all := ok_Simulator_set_all (P := P) (w := w) (base := base) T
  have G_Simulator_stand_up := ok_Simulator_stand_up (P := P) (w := w) (base := base) T
  have G_Simulator_start_wave := ok_Simulator_start_wave (P := P) (w := w) (base := base) T
  have G_Simulator_step := ok_Simulator_step (P := P) (w := w) (base := base) T
  have G_Simulator_advance := ok_Simulator_advance (P := P) (w := w) (base := base) T
  have G_Simulator_rotate := ok_Simulator_rotate (P := P) (w := w) (base := base) T
  have G_Simulator_mirror := ok_Simulator_mirror (P := P) (w := w) (base := base) T
  have G_Simulator_sit_down := ok_Simulator_sit_down (P := P) (w := w) (base := base) T
  refine ⟨_, (pss_cons (ps_if (pt_cmpR op_eq (pv 1) (pe_gi T.v_SET_SECTION) (nomark _)) (pss_one (ps_ret (pe_lst (pa_cons (pe_methG (pv 0) T.cl_Simulator T.m_Simulator_set_section G_Simulator_set_section (hr.mono (by decide)) (passes_call (takes_of rfl rfl rfl rfl) fun _ _ _ _ z => z) (pa_cons (pe_ix ix_list (pv 2) pe_int (fun _ _ => rfl)) (pa_cons (pe_ix ix_list (pv 2) pe_int (fun _ _ => rfl)) pa_nil))) pa_nil)))) pss_nil)
    (pss_cons (ps_if (pt_cmpR op_eq (pv 1) (pe_gi T.v_SET_ALL) (nomark _)) (pss_one (ps_ret (pe_lst (pa_cons (pe_methG (pv 0) T.cl_Simulator T.m_Simulator_set_all G_Simulator_set_all (hr.mono (by decide)) (passes_call (takes_of rfl rfl rfl rfl) fun _ _ _ _ z => z) (pa_cons (pv 2) pa_nil)) pa_nil)))) pss_nil)
    (pss_cons (ps_if (pt_cmpR op_eq (pv 1) (pe_gi T.v_STAND_UP) (nomark _)) (pss_one (ps_ret (pe_lst (pa_cons (pe_methG (pv 0) T.cl_Simulator T.m_Simulator_stand_up G_Simulator_stand_up (hr.mono (by decide)) (passes_call (takes_of rfl rfl rfl rfl) fun _ _ _ _ z => z) (pa_cons (pe_ix ix_list (pv 2) pe_int (fun _ _ => rfl)) pa_nil)) pa_nil)))) pss_nil)
    (pss_cons (ps_if (pt_cmpR op_eq (pv 1) (pe_gi T.v_START_WAVE) (nomark _)) (pss_one (ps_ret (pe_lst (pa_cons (pe_methG (pv 0) T.cl_Simulator T.m_Simulator_start_wave G_Simulator_start_wave (hr.mono (by decide)) (passes_call (takes_of rfl rfl rfl rfl) fun _ _ _ _ z => z) (pa_cons (pe_ix ix_list (pv 2) pe_int (fun _ _ => rfl)) (pa_cons (pe_ix ix_list (pv 2) pe_int (fun _ _ => rfl)) pa_nil))) pa_nil)))) pss_nil)
    (pss_cons (ps_if (pt_cmpR op_eq (pv 1) (pe_gi T.v_STEP) (nomark _)) (pss_one (ps_ret (pe_lst (pa_cons (pe_methG0 (pv 0) T.cl_Simulator T.m_Simulator_step G_Simulator_step (hr.mono (by decide)) pass0) pa_nil)))) pss_nil)
    (pss_cons (ps_if (pt_cmpR op_eq (pv 1) (pe_gi T.v_ADVANCE) (nomark _)) (pss_one (ps_ret (pe_lst (pa_cons (pe_methG (pv 0) T.cl_Simulator T.m_Simulator_advance G_Simulator_advance (hr.mono (by decide)) (passes_call (takes_of rfl rfl rfl rfl) fun _ _ _ _ z => z) (pa_cons (pe_ix ix_list (pv 2) pe_int (fun _ _ => rfl)) pa_nil)) pa_nil)))) pss_nil)
    (pss_cons (ps_if (pt_cmpR op_eq (pv 1) (pe_gi T.v_ROTATE) (nomark _)) (pss_one (ps_ret (pe_lst (pa_cons (pe_methG (pv 0) T.cl_Simulator T.m_Simulator_rotate G_Simulator_rotate (hr.mono (by decide)) (passes_call (takes_of rfl rfl rfl rfl) fun _ _ _ _ z => z) (pa_cons (pe_ix ix_list (pv 2) pe_int (fun _ _ => rfl)) pa_nil)) pa_nil)))) pss_nil)
    (pss_cons (ps_if (pt_cmpR op_eq (pv 1) (pe_gi T.v_MIRROR) (nomark _)) (pss_one (ps_ret (pe_lst (pa_cons (pe_methG0 (pv 0) T.cl_Simulator T.m_Simulator_mirror G_Simulator_mirror (hr.mono (by decide)) pass0) pa_nil)))) pss_nil)
    (pss_one (ps_ret (pe_lst (pa_cons (pe_methG0 (pv 0) T.cl_Simulator T.m_Simulator_sit_down G_Simulator_sit_down (hr.mono (by decide)) pass0) pa_nil)))))))))))), ?_⟩
  obtain ⟨a, l, b, m, c, rfl, hf, hok, hS, hm, hb, kE, kQ⟩ := h
  obtain ⟨dx, ob⟩ := hS.ob
  obtain ⟨r, t⟩ := m
  cases hf with
  | setSection x y =>
    refine ⟨_, rfl, rfl, _, rfl, ite2 (fun _ => ?_) (fun z => absurd rfl z)⟩
    refine ⟨_, rfl, a, dx, _, rfl, ob, simF_no l t (by decide +kernel) (by decide +kernel), _, rfl, b, _, _, _, rfl, rfl, .inl (.inl hb), rfl, _, rfl, b, _, _, _, rfl, rfl, .inl (.inl hb), rfl, a, l, r, t, [x, y], rfl, rfl, hS, hm, fun z => kE z H (Same.refl H), one_row vals_set kQ⟩
  | setAll xs =>
    refine ⟨_, rfl, rfl, _, rfl, ite2 (fun z => absurd z (miss (k := 2) (j := 1) (by decide))) (fun _ => ?_)⟩
    refine ⟨_, rfl, rfl, _, rfl, ite2 (fun _ => ?_) (fun z => absurd rfl z)⟩
    have e : opOf [[2], xs.map fun (n : Nat) => (n : Int)] = .setAll xs := by
      unfold opOf
      rw [op_setAll]
      rfl
    rw [e] at kE kQ
    have eb : (pa [[2], xs.map fun (n : Nat) => (n : Int)]).map V.int = rv xs := by
      rw [rv_ints]
      refine congrArg (List.map V.int) ?_
      show [] ++ ([xs.map fun (n : Nat) => (n : Int)] : List (List Int)).flatten = _
      simp
    rw [eb] at hb
    exact ⟨_, rfl, a, dx, _, rfl, ob, simF_no l t (by decide +kernel) (by decide +kernel), _, rfl, a, l, b, r, t, xs, rfl, hS, hm, .inl (.inl hb), fun z => kE z H (Same.refl H), one_row vals_all kQ⟩
  | standUp x =>
    refine ⟨_, rfl, rfl, _, rfl, ite2 (fun z => absurd z (miss (k := 3) (j := 1) (by decide))) (fun _ => ?_)⟩
    refine ⟨_, rfl, rfl, _, rfl, ite2 (fun z => absurd z (miss (k := 3) (j := 2) (by decide))) (fun _ => ?_)⟩
    refine ⟨_, rfl, rfl, _, rfl, ite2 (fun _ => ?_) (fun z => absurd rfl z)⟩
    refine ⟨_, rfl, a, dx, _, rfl, ob, simF_no l t (by decide +kernel) (by decide +kernel), _, rfl, b, _, _, _, rfl, rfl, .inl (.inl hb), rfl, a, l, r, t, [x], rfl, rfl, hS, hm, fun z => kE z H (Same.refl H), one_row vals_up kQ⟩
  | startWave x y =>
    refine ⟨_, rfl, rfl, _, rfl, ite2 (fun z => absurd z (miss (k := 4) (j := 1) (by decide))) (fun _ => ?_)⟩
    refine ⟨_, rfl, rfl, _, rfl, ite2 (fun z => absurd z (miss (k := 4) (j := 2) (by decide))) (fun _ => ?_)⟩
    refine ⟨_, rfl, rfl, _, rfl, ite2 (fun z => absurd z (miss (k := 4) (j := 3) (by decide))) (fun _ => ?_)⟩
    refine ⟨_, rfl, rfl, _, rfl, ite2 (fun _ => ?_) (fun z => absurd rfl z)⟩
    refine ⟨_, rfl, a, dx, _, rfl, ob, simF_no l t (by decide +kernel) (by decide +kernel), _, rfl, b, _, _, _, rfl, rfl, .inl (.inl hb), rfl, _, rfl, b, _, _, _, rfl, rfl, .inl (.inl hb), rfl, a, l, r, t, [x, y], rfl, rfl, hS, hm, fun z => kE z H (Same.refl H), one_row vals_wave kQ⟩
  | step =>
    refine ⟨_, rfl, rfl, _, rfl, ite2 (fun z => absurd z (miss (k := 5) (j := 1) (by decide))) (fun _ => ?_)⟩
    refine ⟨_, rfl, rfl, _, rfl, ite2 (fun z => absurd z (miss (k := 5) (j := 2) (by decide))) (fun _ => ?_)⟩
    refine ⟨_, rfl, rfl, _, rfl, ite2 (fun z => absurd z (miss (k := 5) (j := 3) (by decide))) (fun _ => ?_)⟩
    refine ⟨_, rfl, rfl, _, rfl, ite2 (fun z => absurd z (miss (k := 5) (j := 4) (by decide))) (fun _ => ?_)⟩
    refine ⟨_, rfl, rfl, _, rfl, ite2 (fun _ => ?_) (fun z => absurd rfl z)⟩
    refine ⟨_, rfl, a, dx, _, rfl, ob, simF_no l t (by decide +kernel) (by decide +kernel), a, l, r, t, [], rfl, rfl, hS, hm, fun z => absurd z (Int.not_lt.mpr (Int.natCast_nonneg _)), one_row rfl kQ⟩
  | advance x =>
    refine ⟨_, rfl, rfl, _, rfl, ite2 (fun z => absurd z (miss (k := 6) (j := 1) (by decide))) (fun _ => ?_)⟩
    refine ⟨_, rfl, rfl, _, rfl, ite2 (fun z => absurd z (miss (k := 6) (j := 2) (by decide))) (fun _ => ?_)⟩
    refine ⟨_, rfl, rfl, _, rfl, ite2 (fun z => absurd z (miss (k := 6) (j := 3) (by decide))) (fun _ => ?_)⟩
    refine ⟨_, rfl, rfl, _, rfl, ite2 (fun z => absurd z (miss (k := 6) (j := 4) (by decide))) (fun _ => ?_)⟩
    refine ⟨_, rfl, rfl, _, rfl, ite2 (fun z => absurd z (miss (k := 6) (j := 5) (by decide))) (fun _ => ?_)⟩
    refine ⟨_, rfl, rfl, _, rfl, ite2 (fun _ => ?_) (fun z => absurd rfl z)⟩
    refine ⟨_, rfl, a, dx, _, rfl, ob, simF_no l t (by decide +kernel) (by decide +kernel), _, rfl, b, _, _, _, rfl, rfl, .inl (.inl hb), rfl, a, l, r, t, [x], rfl, rfl, hS, hm, fun z => kE z H (Same.refl H), one_row vals_adv kQ⟩
  | rotate x =>
    refine ⟨_, rfl, rfl, _, rfl, ite2 (fun z => absurd z (miss (k := 7) (j := 1) (by decide))) (fun _ => ?_)⟩
    refine ⟨_, rfl, rfl, _, rfl, ite2 (fun z => absurd z (miss (k := 7) (j := 2) (by decide))) (fun _ => ?_)⟩
    refine ⟨_, rfl, rfl, _, rfl, ite2 (fun z => absurd z (miss (k := 7) (j := 3) (by decide))) (fun _ => ?_)⟩
    refine ⟨_, rfl, rfl, _, rfl, ite2 (fun z => absurd z (miss (k := 7) (j := 4) (by decide))) (fun _ => ?_)⟩
    refine ⟨_, rfl, rfl, _, rfl, ite2 (fun z => absurd z (miss (k := 7) (j := 5) (by decide))) (fun _ => ?_)⟩
    refine ⟨_, rfl, rfl, _, rfl, ite2 (fun z => absurd z (miss (k := 7) (j := 6) (by decide))) (fun _ => ?_)⟩
    refine ⟨_, rfl, rfl, _, rfl, ite2 (fun _ => ?_) (fun z => absurd rfl z)⟩
    refine ⟨_, rfl, a, dx, _, rfl, ob, simF_no l t (by decide +kernel) (by decide +kernel), _, rfl, b, _, _, _, rfl, rfl, .inl (.inl hb), rfl, a, l, r, t, [x], rfl, rfl, hS, hm, fun z => kE z H (Same.refl H), one_row vals_rot kQ⟩
  | mirror =>
    refine ⟨_, rfl, rfl, _, rfl, ite2 (fun z => absurd z (miss (k := 8) (j := 1) (by decide))) (fun _ => ?_)⟩
    refine ⟨_, rfl, rfl, _, rfl, ite2 (fun z => absurd z (miss (k := 8) (j := 2) (by decide))) (fun _ => ?_)⟩
    refine ⟨_, rfl, rfl, _, rfl, ite2 (fun z => absurd z (miss (k := 8) (j := 3) (by decide))) (fun _ => ?_)⟩
    refine ⟨_, rfl, rfl, _, rfl, ite2 (fun z => absurd z (miss (k := 8) (j := 4) (by decide))) (fun _ => ?_)⟩
    refine ⟨_, rfl, rfl, _, rfl, ite2 (fun z => absurd z (miss (k := 8) (j := 5) (by decide))) (fun _ => ?_)⟩
    refine ⟨_, rfl, rfl, _, rfl, ite2 (fun z => absurd z (miss (k := 8) (j := 6) (by decide))) (fun _ => ?_)⟩
    refine ⟨_, rfl, rfl, _, rfl, ite2 (fun z => absurd z (miss (k := 8) (j := 7) (by decide))) (fun _ => ?_)⟩
    refine ⟨_, rfl, rfl, _, rfl, ite2 (fun _ => ?_) (fun z => absurd rfl z)⟩
    refine ⟨_, rfl, a, dx, _, rfl, ob, simF_no l t (by decide +kernel) (by decide +kernel), a, l, r, t, [], rfl, rfl, hS, hm, fun z => absurd z (Int.not_lt.mpr (Int.natCast_nonneg _)), one_row rfl kQ⟩
  | sitDown =>
    refine ⟨_, rfl, rfl, _, rfl, ite2 (fun z => absurd z (miss (k := 9) (j := 1) (by decide))) (fun _ => ?_)⟩
    refine ⟨_, rfl, rfl, _, rfl, ite2 (fun z => absurd z (miss (k := 9) (j := 2) (by decide))) (fun _ => ?_)⟩
    refine ⟨_, rfl, rfl, _, rfl, ite2 (fun z => absurd z (miss (k := 9) (j := 3) (by decide))) (fun _ => ?_)⟩
    refine ⟨_, rfl, rfl, _, rfl, ite2 (fun z => absurd z (miss (k := 9) (j := 4) (by decide))) (fun _ => ?_)⟩
    refine ⟨_, rfl, rfl, _, rfl, ite2 (fun z => absurd z (miss (k := 9) (j := 5) (by decide))) (fun _ => ?_)⟩
    refine ⟨_, rfl, rfl, _, rfl, ite2 (fun z => absurd z (miss (k := 9) (j := 6) (by decide))) (fun _ => ?_)⟩
    refine ⟨_, rfl, rfl, _, rfl, ite2 (fun z => absurd z (miss (k := 9) (j := 7) (by decide))) (fun _ => ?_)⟩
    refine ⟨_, rfl, rfl, _, rfl, ite2 (fun z => absurd z (miss (k := 9) (j := 8) (by decide))) (fun _ => ?_)⟩
    refine ⟨_, rfl, a, dx, _, rfl, ob, simF_no l t (by decide +kernel) (by decide +kernel), a, l, r, t, [], rfl, rfl, hS, hm, fun z => absurd z (Int.not_lt.mpr (Int.natCast_nonneg _)), one_row rfl kQ⟩
  | _ => simp [pn] at hok
theorem ok_answer_query (T : Txt K mg A) : Good P w K mg base (L2.CX P w) 7 A.f_answer_query ["simulator", "number", "arguments"] (spDisp A (fun n => 10 ≤ n ∧ n ≤ 22)) := by
  obtain ⟨fd, F, b⟩ := T.F_answer_query
  refine ⟨⟨fd, ?_, b⟩, F.kp⟩
  refine F.okX sc_answer_query (fun vs H Q E h => ?_) (fun cdv Ar outer s H vs Q E hr h => ?_)
  · obtain ⟨a, l, b, m, c, rfl, _⟩ := h
    rfl
  have nd := sc_answer_query.nd
  have G_Simulator_get_ring := ok_Simulator_get_ring (P := P) (w := w) (base := base) T
  have G_Simulator_get_section := ok_Simulator_get_section (P := P) (w := w) (base := base) T
  have G_Simulator_ring_after := ok_Simulator_ring_after (P := P) (w := w) (base := base) T
  have G_Simulator_winding_number := ok_Simulator_winding_number (P := P) (w := w) (base := base) T
  have G_Simulator_steps_until_quiet := ok_Simulator_steps_until_quiet (P := P) (w := w) (base := base) T
  have G_Simulator_cycle := ok_Simulator_cycle (P := P) (w := w) (base := base) T
  have G_Simulator_forward_waves := ok_Simulator_forward_waves (P := P) (w := w) (base := base) T
  have G_Simulator_backward_waves := ok_Simulator_backward_waves (P := P) (w := w) (base := base) T
  have G_Simulator_standing_count := ok_Simulator_standing_count (P := P) (w := w) (base := base) T
  have G_Simulator_max_standing := ok_Simulator_max_standing (P := P) (w := w) (base := base) T
  have G_Simulator_first_standing := ok_Simulator_first_standing (P := P) (w := w) (base := base) T
  have G_Simulator_quiet_if_stand_up := ok_Simulator_quiet_if_stand_up (P := P) (w := w) (base := base) T
  have G_Simulator_get_state := ok_Simulator_get_state (P := P) (w := w) (base := base) T
  refine ⟨_, (pss_cons (ps_if (pt_cmpR op_eq (pv 1) (pe_gi T.v_GET_RING) (nomark _)) (pss_one (ps_ret (pe_methG0 (pv 0) T.cl_Simulator T.m_Simulator_get_ring G_Simulator_get_ring (hr.mono (by decide)) pass0))) pss_nil)
    (pss_cons (ps_if (pt_cmpR op_eq (pv 1) (pe_gi T.v_GET_SECTION) (nomark _)) (pss_one (ps_ret (pe_lst (pa_cons (pe_methG (pv 0) T.cl_Simulator T.m_Simulator_get_section G_Simulator_get_section (hr.mono (by decide)) (passes_call (takes_of rfl rfl rfl rfl) fun _ _ _ _ z => z) (pa_cons (pe_ix ix_list (pv 2) pe_int (fun _ _ => rfl)) pa_nil)) pa_nil)))) pss_nil)
    (pss_cons (ps_if (pt_cmpR op_eq (pv 1) (pe_gi T.v_RING_AFTER) (nomark _)) (pss_one (ps_ret (pe_methG (pv 0) T.cl_Simulator T.m_Simulator_ring_after G_Simulator_ring_after (hr.mono (by decide)) (passes_call (takes_of rfl rfl rfl rfl) fun _ _ _ _ z => z) (pa_cons (pe_ix ix_list (pv 2) pe_int (fun _ _ => rfl)) pa_nil)))) pss_nil)
    (pss_cons (ps_if (pt_cmpR op_eq (pv 1) (pe_gi T.v_WINDING_NUMBER) (nomark _)) (pss_one (ps_ret (pe_methG0 (pv 0) T.cl_Simulator T.m_Simulator_winding_number G_Simulator_winding_number (hr.mono (by decide)) pass0))) pss_nil)
    (pss_cons (ps_if (pt_cmpR op_eq (pv 1) (pe_gi T.v_STEPS_UNTIL_QUIET) (nomark _)) (pss_one (ps_ret (pe_lst (pa_cons (pe_methG0 (pv 0) T.cl_Simulator T.m_Simulator_steps_until_quiet G_Simulator_steps_until_quiet (hr.mono (by decide)) (passes_call (takes_of rfl rfl rfl rfl) fun _ _ _ _ z => z)) pa_nil)))) pss_nil)
    (pss_cons (ps_if (pt_cmpR op_eq (pv 1) (pe_gi T.v_CYCLE) (nomark _)) (pss_one (ps_ret (pe_methG0 (pv 0) T.cl_Simulator T.m_Simulator_cycle G_Simulator_cycle (hr.mono (by decide)) pass0))) pss_nil)
    (pss_cons (ps_if (pt_cmpR op_eq (pv 1) (pe_gi T.v_FORWARD_WAVES) (nomark _)) (pss_one (ps_ret (pe_methG0 (pv 0) T.cl_Simulator T.m_Simulator_forward_waves G_Simulator_forward_waves (hr.mono (by decide)) pass0))) pss_nil)
    (pss_cons (ps_if (pt_cmpR op_eq (pv 1) (pe_gi T.v_BACKWARD_WAVES) (nomark _)) (pss_one (ps_ret (pe_methG0 (pv 0) T.cl_Simulator T.m_Simulator_backward_waves G_Simulator_backward_waves (hr.mono (by decide)) pass0))) pss_nil)
    (pss_cons (ps_if (pt_cmpR op_eq (pv 1) (pe_gi T.v_STANDING_COUNT) (nomark _)) (pss_one (ps_ret (pe_lst (pa_cons (pe_methG0 (pv 0) T.cl_Simulator T.m_Simulator_standing_count G_Simulator_standing_count (hr.mono (by decide)) pass0) pa_nil)))) pss_nil)
    (pss_cons (ps_if (pt_cmpR op_eq (pv 1) (pe_gi T.v_MAX_STANDING) (nomark _)) (pss_one (ps_ret (pe_lst (pa_cons (pe_methG0 (pv 0) T.cl_Simulator T.m_Simulator_max_standing G_Simulator_max_standing (hr.mono (by decide)) pass0) pa_nil)))) pss_nil)
    (pss_cons (ps_if (pt_cmpR op_eq (pv 1) (pe_gi T.v_FIRST_STANDING) (nomark _)) (pss_one (ps_ret (pe_lst (pa_cons (pe_methG (pv 0) T.cl_Simulator T.m_Simulator_first_standing G_Simulator_first_standing (hr.mono (by decide)) (passes_call (takes_of rfl rfl rfl rfl) fun _ _ _ _ z => z) (pa_cons (pe_ix ix_list (pv 2) pe_int (fun _ _ => rfl)) pa_nil)) pa_nil)))) pss_nil)
    (pss_cons (ps_if (pt_cmpR op_eq (pv 1) (pe_gi T.v_QUIET_IF_STAND_UP) (nomark _)) (pss_one (ps_ret (pe_lst (pa_cons (pe_methG (pv 0) T.cl_Simulator T.m_Simulator_quiet_if_stand_up G_Simulator_quiet_if_stand_up (hr.mono (by decide)) (passes_call (takes_of rfl rfl rfl rfl) fun _ _ _ _ z => z) (pa_cons (pe_ix ix_list (pv 2) pe_int (fun _ _ => rfl)) pa_nil)) pa_nil)))) pss_nil)
    (pss_one (ps_ret (pe_methG0 (pv 0) T.cl_Simulator T.m_Simulator_get_state G_Simulator_get_state (hr.mono (by decide)) pass0))))))))))))))), ?_⟩
  obtain ⟨a, l, b, m, c, rfl, hf, hok, hS, hm, hb, kE, kQ⟩ := h
  obtain ⟨dx, ob⟩ := hS.ob
  obtain ⟨r, t⟩ := m
  cases hf with
  | getRing =>
    refine ⟨_, rfl, rfl, _, rfl, ite2 (fun _ => ?_) (fun z => absurd rfl z)⟩
    refine ⟨_, rfl, a, dx, _, rfl, ob, simF_no l t (by decide +kernel) (by decide +kernel), a, l, r, t, rfl, hS, hm, fun H' p s np hp => ?_⟩
    refine kQ (Int.not_lt.mpr (Int.natCast_nonneg _)) H' p ⟨⟨l, ⟨⟨dx, s _ _ ob⟩, s _ _ hS.ls⟩, .inl rfl⟩, fun b o e _ _ => s b o e, fun b e => s.free e⟩ np ?_
    rw [hp]
    refine congrArg (fun z => some (HO.lst z)) ?_
    show V.int ((r.length : Nat) : Int) :: rv r = V.int ((r.length : Nat) : Int) :: (r.map Int.ofNat).map V.int
    rw [rv_ints]
    rfl
  | getSection x =>
    refine ⟨_, rfl, rfl, _, rfl, ite2 (fun z => absurd z (miss (k := 11) (j := 10) (by decide))) (fun _ => ?_)⟩
    refine ⟨_, rfl, rfl, _, rfl, ite2 (fun _ => ?_) (fun z => absurd rfl z)⟩
    refine ⟨_, rfl, a, dx, _, rfl, ob, simF_no l t (by decide +kernel) (by decide +kernel), _, rfl, b, _, _, _, rfl, rfl, .inl (.inl hb), rfl, a, l, r, t, [x], rfl, rfl, hS, hm, fun z => kE z H (Same.refl H), one_row vals_get kQ⟩
  | ringAfter x =>
    refine ⟨_, rfl, rfl, _, rfl, ite2 (fun z => absurd z (miss (k := 12) (j := 10) (by decide))) (fun _ => ?_)⟩
    refine ⟨_, rfl, rfl, _, rfl, ite2 (fun z => absurd z (miss (k := 12) (j := 11) (by decide))) (fun _ => ?_)⟩
    refine ⟨_, rfl, rfl, _, rfl, ite2 (fun _ => ?_) (fun z => absurd rfl z)⟩
    exact ⟨_, rfl, a, dx, _, rfl, ob, simF_no l t (by decide +kernel) (by decide +kernel), _, rfl, b, _, _, _, rfl, rfl, .inl (.inl hb), rfl, a, l, r, t, [x], rfl, rfl, hS, hm, kE, ask_list (m := ⟨r, t⟩) (run_after r t x) hS kQ⟩
  | windingNumber =>
    refine ⟨_, rfl, rfl, _, rfl, ite2 (fun z => absurd z (miss (k := 13) (j := 10) (by decide))) (fun _ => ?_)⟩
    refine ⟨_, rfl, rfl, _, rfl, ite2 (fun z => absurd z (miss (k := 13) (j := 11) (by decide))) (fun _ => ?_)⟩
    refine ⟨_, rfl, rfl, _, rfl, ite2 (fun z => absurd z (miss (k := 13) (j := 12) (by decide))) (fun _ => ?_)⟩
    refine ⟨_, rfl, rfl, _, rfl, ite2 (fun _ => ?_) (fun z => absurd rfl z)⟩
    exact ⟨_, rfl, a, dx, _, rfl, ob, simF_no l t (by decide +kernel) (by decide +kernel), a, l, r, t, [], rfl, rfl, hS, hm, fun z => absurd z (Int.lt_irrefl 0), ask_list (m := ⟨r, t⟩) rfl hS kQ⟩
  | stepsUntilQuiet =>
    refine ⟨_, rfl, rfl, _, rfl, ite2 (fun z => absurd z (miss (k := 14) (j := 10) (by decide))) (fun _ => ?_)⟩
    refine ⟨_, rfl, rfl, _, rfl, ite2 (fun z => absurd z (miss (k := 14) (j := 11) (by decide))) (fun _ => ?_)⟩
    refine ⟨_, rfl, rfl, _, rfl, ite2 (fun z => absurd z (miss (k := 14) (j := 12) (by decide))) (fun _ => ?_)⟩
    refine ⟨_, rfl, rfl, _, rfl, ite2 (fun z => absurd z (miss (k := 14) (j := 13) (by decide))) (fun _ => ?_)⟩
    refine ⟨_, rfl, rfl, _, rfl, ite2 (fun _ => ?_) (fun z => absurd rfl z)⟩
    exact ⟨_, rfl, a, dx, _, rfl, ob, simF_no l t (by decide +kernel) (by decide +kernel), a, l, r, t, [], rfl, rfl, hS, hm, kE, ask_num (m := ⟨r, t⟩) rfl (vals_opt r t _) hS kQ⟩
  | cycle =>
    refine ⟨_, rfl, rfl, _, rfl, ite2 (fun z => absurd z (miss (k := 15) (j := 10) (by decide))) (fun _ => ?_)⟩
    refine ⟨_, rfl, rfl, _, rfl, ite2 (fun z => absurd z (miss (k := 15) (j := 11) (by decide))) (fun _ => ?_)⟩
    refine ⟨_, rfl, rfl, _, rfl, ite2 (fun z => absurd z (miss (k := 15) (j := 12) (by decide))) (fun _ => ?_)⟩
    refine ⟨_, rfl, rfl, _, rfl, ite2 (fun z => absurd z (miss (k := 15) (j := 13) (by decide))) (fun _ => ?_)⟩
    refine ⟨_, rfl, rfl, _, rfl, ite2 (fun z => absurd z (miss (k := 15) (j := 14) (by decide))) (fun _ => ?_)⟩
    refine ⟨_, rfl, rfl, _, rfl, ite2 (fun _ => ?_) (fun z => absurd rfl z)⟩
    exact ⟨_, rfl, a, dx, _, rfl, ob, simF_no l t (by decide +kernel) (by decide +kernel), a, l, r, t, [], rfl, rfl, hS, hm, fun z => absurd z (Int.not_lt.mpr (Int.natCast_nonneg _)), ask_list (m := ⟨r, t⟩) rfl hS kQ⟩
  | forwardWaves =>
    refine ⟨_, rfl, rfl, _, rfl, ite2 (fun z => absurd z (miss (k := 16) (j := 10) (by decide))) (fun _ => ?_)⟩
    refine ⟨_, rfl, rfl, _, rfl, ite2 (fun z => absurd z (miss (k := 16) (j := 11) (by decide))) (fun _ => ?_)⟩
    refine ⟨_, rfl, rfl, _, rfl, ite2 (fun z => absurd z (miss (k := 16) (j := 12) (by decide))) (fun _ => ?_)⟩
    refine ⟨_, rfl, rfl, _, rfl, ite2 (fun z => absurd z (miss (k := 16) (j := 13) (by decide))) (fun _ => ?_)⟩
    refine ⟨_, rfl, rfl, _, rfl, ite2 (fun z => absurd z (miss (k := 16) (j := 14) (by decide))) (fun _ => ?_)⟩
    refine ⟨_, rfl, rfl, _, rfl, ite2 (fun z => absurd z (miss (k := 16) (j := 15) (by decide))) (fun _ => ?_)⟩
    refine ⟨_, rfl, rfl, _, rfl, ite2 (fun _ => ?_) (fun z => absurd rfl z)⟩
    exact ⟨_, rfl, a, dx, _, rfl, ob, simF_no l t (by decide +kernel) (by decide +kernel), a, l, r, t, [], rfl, rfl, hS, hm, fun z => absurd z (Int.not_lt.mpr (Int.natCast_nonneg _)), ask_list (m := ⟨r, t⟩) rfl hS kQ⟩
  | backwardWaves =>
    refine ⟨_, rfl, rfl, _, rfl, ite2 (fun z => absurd z (miss (k := 17) (j := 10) (by decide))) (fun _ => ?_)⟩
    refine ⟨_, rfl, rfl, _, rfl, ite2 (fun z => absurd z (miss (k := 17) (j := 11) (by decide))) (fun _ => ?_)⟩
    refine ⟨_, rfl, rfl, _, rfl, ite2 (fun z => absurd z (miss (k := 17) (j := 12) (by decide))) (fun _ => ?_)⟩
    refine ⟨_, rfl, rfl, _, rfl, ite2 (fun z => absurd z (miss (k := 17) (j := 13) (by decide))) (fun _ => ?_)⟩
    refine ⟨_, rfl, rfl, _, rfl, ite2 (fun z => absurd z (miss (k := 17) (j := 14) (by decide))) (fun _ => ?_)⟩
    refine ⟨_, rfl, rfl, _, rfl, ite2 (fun z => absurd z (miss (k := 17) (j := 15) (by decide))) (fun _ => ?_)⟩
    refine ⟨_, rfl, rfl, _, rfl, ite2 (fun z => absurd z (miss (k := 17) (j := 16) (by decide))) (fun _ => ?_)⟩
    refine ⟨_, rfl, rfl, _, rfl, ite2 (fun _ => ?_) (fun z => absurd rfl z)⟩
    exact ⟨_, rfl, a, dx, _, rfl, ob, simF_no l t (by decide +kernel) (by decide +kernel), a, l, r, t, [], rfl, rfl, hS, hm, fun z => absurd z (Int.not_lt.mpr (Int.natCast_nonneg _)), ask_list (m := ⟨r, t⟩) rfl hS kQ⟩
  | standingCount =>
    refine ⟨_, rfl, rfl, _, rfl, ite2 (fun z => absurd z (miss (k := 18) (j := 10) (by decide))) (fun _ => ?_)⟩
    refine ⟨_, rfl, rfl, _, rfl, ite2 (fun z => absurd z (miss (k := 18) (j := 11) (by decide))) (fun _ => ?_)⟩
    refine ⟨_, rfl, rfl, _, rfl, ite2 (fun z => absurd z (miss (k := 18) (j := 12) (by decide))) (fun _ => ?_)⟩
    refine ⟨_, rfl, rfl, _, rfl, ite2 (fun z => absurd z (miss (k := 18) (j := 13) (by decide))) (fun _ => ?_)⟩
    refine ⟨_, rfl, rfl, _, rfl, ite2 (fun z => absurd z (miss (k := 18) (j := 14) (by decide))) (fun _ => ?_)⟩
    refine ⟨_, rfl, rfl, _, rfl, ite2 (fun z => absurd z (miss (k := 18) (j := 15) (by decide))) (fun _ => ?_)⟩
    refine ⟨_, rfl, rfl, _, rfl, ite2 (fun z => absurd z (miss (k := 18) (j := 16) (by decide))) (fun _ => ?_)⟩
    refine ⟨_, rfl, rfl, _, rfl, ite2 (fun z => absurd z (miss (k := 18) (j := 17) (by decide))) (fun _ => ?_)⟩
    refine ⟨_, rfl, rfl, _, rfl, ite2 (fun _ => ?_) (fun z => absurd rfl z)⟩
    exact ⟨_, rfl, a, dx, _, rfl, ob, simF_no l t (by decide +kernel) (by decide +kernel), a, l, r, t, [], rfl, rfl, hS, hm, fun z => absurd z (Int.not_lt.mpr (Int.natCast_nonneg _)), ask_num (m := ⟨r, t⟩) rfl rfl hS kQ⟩
  | maxStanding =>
    refine ⟨_, rfl, rfl, _, rfl, ite2 (fun z => absurd z (miss (k := 19) (j := 10) (by decide))) (fun _ => ?_)⟩
    refine ⟨_, rfl, rfl, _, rfl, ite2 (fun z => absurd z (miss (k := 19) (j := 11) (by decide))) (fun _ => ?_)⟩
    refine ⟨_, rfl, rfl, _, rfl, ite2 (fun z => absurd z (miss (k := 19) (j := 12) (by decide))) (fun _ => ?_)⟩
    refine ⟨_, rfl, rfl, _, rfl, ite2 (fun z => absurd z (miss (k := 19) (j := 13) (by decide))) (fun _ => ?_)⟩
    refine ⟨_, rfl, rfl, _, rfl, ite2 (fun z => absurd z (miss (k := 19) (j := 14) (by decide))) (fun _ => ?_)⟩
    refine ⟨_, rfl, rfl, _, rfl, ite2 (fun z => absurd z (miss (k := 19) (j := 15) (by decide))) (fun _ => ?_)⟩
    refine ⟨_, rfl, rfl, _, rfl, ite2 (fun z => absurd z (miss (k := 19) (j := 16) (by decide))) (fun _ => ?_)⟩
    refine ⟨_, rfl, rfl, _, rfl, ite2 (fun z => absurd z (miss (k := 19) (j := 17) (by decide))) (fun _ => ?_)⟩
    refine ⟨_, rfl, rfl, _, rfl, ite2 (fun z => absurd z (miss (k := 19) (j := 18) (by decide))) (fun _ => ?_)⟩
    refine ⟨_, rfl, rfl, _, rfl, ite2 (fun _ => ?_) (fun z => absurd rfl z)⟩
    exact ⟨_, rfl, a, dx, _, rfl, ob, simF_no l t (by decide +kernel) (by decide +kernel), a, l, r, t, [], rfl, rfl, hS, hm, fun z => absurd z (Int.not_lt.mpr (Int.natCast_nonneg _)), ask_num (m := ⟨r, t⟩) rfl rfl hS kQ⟩
  | firstStanding x =>
    refine ⟨_, rfl, rfl, _, rfl, ite2 (fun z => absurd z (miss (k := 20) (j := 10) (by decide))) (fun _ => ?_)⟩
    refine ⟨_, rfl, rfl, _, rfl, ite2 (fun z => absurd z (miss (k := 20) (j := 11) (by decide))) (fun _ => ?_)⟩
    refine ⟨_, rfl, rfl, _, rfl, ite2 (fun z => absurd z (miss (k := 20) (j := 12) (by decide))) (fun _ => ?_)⟩
    refine ⟨_, rfl, rfl, _, rfl, ite2 (fun z => absurd z (miss (k := 20) (j := 13) (by decide))) (fun _ => ?_)⟩
    refine ⟨_, rfl, rfl, _, rfl, ite2 (fun z => absurd z (miss (k := 20) (j := 14) (by decide))) (fun _ => ?_)⟩
    refine ⟨_, rfl, rfl, _, rfl, ite2 (fun z => absurd z (miss (k := 20) (j := 15) (by decide))) (fun _ => ?_)⟩
    refine ⟨_, rfl, rfl, _, rfl, ite2 (fun z => absurd z (miss (k := 20) (j := 16) (by decide))) (fun _ => ?_)⟩
    refine ⟨_, rfl, rfl, _, rfl, ite2 (fun z => absurd z (miss (k := 20) (j := 17) (by decide))) (fun _ => ?_)⟩
    refine ⟨_, rfl, rfl, _, rfl, ite2 (fun z => absurd z (miss (k := 20) (j := 18) (by decide))) (fun _ => ?_)⟩
    refine ⟨_, rfl, rfl, _, rfl, ite2 (fun z => absurd z (miss (k := 20) (j := 19) (by decide))) (fun _ => ?_)⟩
    refine ⟨_, rfl, rfl, _, rfl, ite2 (fun _ => ?_) (fun z => absurd rfl z)⟩
    exact ⟨_, rfl, a, dx, _, rfl, ob, simF_no l t (by decide +kernel) (by decide +kernel), _, rfl, b, _, _, _, rfl, rfl, .inl (.inl hb), rfl, a, l, r, t, [x], rfl, rfl, hS, hm, kE, ask_num (m := ⟨r, t⟩) (run_first r t x).1 (run_first r t x).2 hS kQ⟩
  | quietIfStandUp x =>
    refine ⟨_, rfl, rfl, _, rfl, ite2 (fun z => absurd z (miss (k := 21) (j := 10) (by decide))) (fun _ => ?_)⟩
    refine ⟨_, rfl, rfl, _, rfl, ite2 (fun z => absurd z (miss (k := 21) (j := 11) (by decide))) (fun _ => ?_)⟩
    refine ⟨_, rfl, rfl, _, rfl, ite2 (fun z => absurd z (miss (k := 21) (j := 12) (by decide))) (fun _ => ?_)⟩
    refine ⟨_, rfl, rfl, _, rfl, ite2 (fun z => absurd z (miss (k := 21) (j := 13) (by decide))) (fun _ => ?_)⟩
    refine ⟨_, rfl, rfl, _, rfl, ite2 (fun z => absurd z (miss (k := 21) (j := 14) (by decide))) (fun _ => ?_)⟩
    refine ⟨_, rfl, rfl, _, rfl, ite2 (fun z => absurd z (miss (k := 21) (j := 15) (by decide))) (fun _ => ?_)⟩
    refine ⟨_, rfl, rfl, _, rfl, ite2 (fun z => absurd z (miss (k := 21) (j := 16) (by decide))) (fun _ => ?_)⟩
    refine ⟨_, rfl, rfl, _, rfl, ite2 (fun z => absurd z (miss (k := 21) (j := 17) (by decide))) (fun _ => ?_)⟩
    refine ⟨_, rfl, rfl, _, rfl, ite2 (fun z => absurd z (miss (k := 21) (j := 18) (by decide))) (fun _ => ?_)⟩
    refine ⟨_, rfl, rfl, _, rfl, ite2 (fun z => absurd z (miss (k := 21) (j := 19) (by decide))) (fun _ => ?_)⟩
    refine ⟨_, rfl, rfl, _, rfl, ite2 (fun z => absurd z (miss (k := 21) (j := 20) (by decide))) (fun _ => ?_)⟩
    refine ⟨_, rfl, rfl, _, rfl, ite2 (fun _ => ?_) (fun z => absurd rfl z)⟩
    exact ⟨_, rfl, a, dx, _, rfl, ob, simF_no l t (by decide +kernel) (by decide +kernel), _, rfl, b, _, _, _, rfl, rfl, .inl (.inl hb), rfl, a, l, r, t, [x], rfl, rfl, hS, hm, kE, ask_num (m := ⟨r, t⟩) (run_if r t x).1 (run_if r t x).2 hS kQ⟩
  | getState =>
    refine ⟨_, rfl, rfl, _, rfl, ite2 (fun z => absurd z (miss (k := 22) (j := 10) (by decide))) (fun _ => ?_)⟩
    refine ⟨_, rfl, rfl, _, rfl, ite2 (fun z => absurd z (miss (k := 22) (j := 11) (by decide))) (fun _ => ?_)⟩
    refine ⟨_, rfl, rfl, _, rfl, ite2 (fun z => absurd z (miss (k := 22) (j := 12) (by decide))) (fun _ => ?_)⟩
    refine ⟨_, rfl, rfl, _, rfl, ite2 (fun z => absurd z (miss (k := 22) (j := 13) (by decide))) (fun _ => ?_)⟩
    refine ⟨_, rfl, rfl, _, rfl, ite2 (fun z => absurd z (miss (k := 22) (j := 14) (by decide))) (fun _ => ?_)⟩
    refine ⟨_, rfl, rfl, _, rfl, ite2 (fun z => absurd z (miss (k := 22) (j := 15) (by decide))) (fun _ => ?_)⟩
    refine ⟨_, rfl, rfl, _, rfl, ite2 (fun z => absurd z (miss (k := 22) (j := 16) (by decide))) (fun _ => ?_)⟩
    refine ⟨_, rfl, rfl, _, rfl, ite2 (fun z => absurd z (miss (k := 22) (j := 17) (by decide))) (fun _ => ?_)⟩
    refine ⟨_, rfl, rfl, _, rfl, ite2 (fun z => absurd z (miss (k := 22) (j := 18) (by decide))) (fun _ => ?_)⟩
    refine ⟨_, rfl, rfl, _, rfl, ite2 (fun z => absurd z (miss (k := 22) (j := 19) (by decide))) (fun _ => ?_)⟩
    refine ⟨_, rfl, rfl, _, rfl, ite2 (fun z => absurd z (miss (k := 22) (j := 20) (by decide))) (fun _ => ?_)⟩
    refine ⟨_, rfl, rfl, _, rfl, ite2 (fun z => absurd z (miss (k := 22) (j := 21) (by decide))) (fun _ => ?_)⟩
    exact ⟨_, rfl, a, dx, _, rfl, ob, simF_no l t (by decide +kernel) (by decide +kernel), a, l, r, t, [], rfl, rfl, hS, hm, fun z => absurd z (Int.not_lt.mpr (Int.natCast_nonneg _)), ask_list (m := ⟨r, t⟩) rfl hS kQ⟩
  | _ => simp [pn] at hok
theorem ok_Session_execute (T : Txt K mg A) : Good P w K mg base (L2.CX P w) 10 A.f_Session_execute ["self", "number", "arguments"] (spExec A) := by
  obtain ⟨fd, F, b⟩ := T.F_Session_execute
  refine ⟨⟨fd, ?_, b⟩, F.kp⟩
  refine F.okX sc_Session_execute (fun vs H Q E h => ?_) (fun cdv Ar outer s H vs Q E hr h => ?_)
  · obtain ⟨s, b, st, own, c, rfl, _⟩ := h
    rfl
  have nd := sc_Session_execute.nd
  have G_Session_create := ok_Session_create (P := P) (w := w) (base := base) T
  have G_NoSimulator_init := ok_NoSimulator_init (P := P) (w := w) (base := base) T
  have G_answer_change := ok_answer_change (P := P) (w := w) (base := base) T
  have G_answer_query := ok_answer_query (P := P) (w := w) (base := base) T
  refine ⟨_, (pss_cons (ps_if (pt_cmpR op_eq (pv 1) (pe_gi T.v_CREATE) (nomark _)) (pss_one (ps_ret (pe_lst (pa_cons (pe_methG (pv 0) T.cl_Session T.m_Session_create G_Session_create (hr.mono (by decide)) (passes_call (takes_of rfl rfl rfl rfl) fun _ _ _ _ z => z) (pa_cons (pe_ix ix_list (pv 2) pe_int (fun _ _ => rfl)) pa_nil)) pa_nil)))) pss_nil)
    (pss_cons (ps_if (pt_cmpR op_isN (pe_fld (pv 0) rfl) pe_non (nomark _)) (pss_one (ps_raise rfl (takes_of rfl rfl rfl rfl) (pmk_errG T.e_NoSimulator T.i_NoSimulator T.t_NoSimulator G_NoSimulator_init (hr.mono (by decide)) pass0 T.g_NoSimulator))) pss_nil)
    (pss_cons (ps_if (pt_cmpR op_le (pv 1) (pe_gi T.v_SIT_DOWN) (nomark _)) (pss_one (ps_ret (pe_callG G_answer_change (hr.mono (by decide)) T.g_answer_change (passes_call (takes_of rfl rfl rfl rfl) fun _ _ _ _ z => z) (pa_cons (pe_fld (pv 0) rfl) (pa_cons (pv 1) (pa_cons (pv 2) pa_nil)))))) pss_nil)
    (pss_one (ps_ret (pe_callG G_answer_query (hr.mono (by decide)) T.g_answer_query (passes_call (takes_of rfl rfl rfl rfl) fun _ _ _ _ z => z) (pa_cons (pe_fld (pv 0) rfl) (pa_cons (pv 1) (pa_cons (pv 2) pa_nil))))))))), ?_⟩
  obtain ⟨s, b, st, own, c, rfl, hS, hf, bs, bo, hb, kE, kQ⟩ := h
  obtain ⟨ds, v, obs⟩ := hS.obj
  refine ⟨_, rfl, rfl, _, rfl, ite2 (fun c0 => ?_) (fun c0 => ?_)⟩
  · have c0' : pn c = 0 := by
      have := of_decide_eq_true c0
      injection this
    cases hf with
    | create x =>
      refine ⟨_, rfl, s, ds, _, rfl, obs, sesF_no v (by decide +kernel), _, rfl, b, _, _, _, rfl, rfl, .inl (.inl hb), rfl, s, st, own, x, rfl, hS, fun h => ?_, fun h H' own' S' M => ?_⟩
      · exact kE (-22) (by decide) (step_new1 h) H (Same.refl H)
      · refine ⟨by show 1 ≤ sizeLine; decide, fun p np => ?_⟩
        rw [step_new2 h] at kQ
        exact kQ _ p own' (S'.over np _) (M.over np _) (M.stay p np) upd_same
    | _ => simp [pn] at c0'
  have n0 : pn c ≠ 0 := fun z => c0 (decide_eq_true (by rw [z]))
  refine ⟨_, rfl, s, _, ds, _, _, rfl, obs, T.cl_Session, T.na_Session_simulator, sesF_get v, rfl, _, rfl, ?_⟩
  cases hS with
  | off dx ob =>
    obtain rfl : v = .non := by
      have e := ob.symm.trans obs
      have e2 : sesF .non = sesF v := by injection e with e; injection e
      have e3 := congrArg (List.lookup ("simulator" : Str)) e2
      rw [sesF_get, sesF_get] at e3
      exact (Option.some.inj e3).symm
    refine ite2 (fun _ => ?_) (fun z => absurd rfl z)
    exact raise_code T.e_NoSimulator (kE (-11) (by decide) (step_off hf n0) H (Same.refl H))
  | on dx a l m ob sim fine ne =>
    obtain rfl : v = .ref a := by
      have e := ob.symm.trans obs
      have e2 : sesF (.ref a) = sesF v := by injection e with e; injection e
      have e3 := congrArg (List.lookup ("simulator" : Str)) e2
      rw [sesF_get, sesF_get] at e3
      exact (Option.some.inj e3).symm
    refine ite2 (fun z => absurd (of_decide_eq_true z) (by intro y; cases y)) (fun _ => ?_)
    rw [step_on m hf] at kQ
    have err : (m.run (opOf c)).2.code < 0 → ∀ H', Same H H' → Err E (errC A (m.run (opOf c)).2.code) (m.run (opOf c)).2.code H' := fun h => by
      refine kE _ h ?_
      rw [step_on m hf, refused h]
      rfl
    have sl : s ≠ l := fun z => by
      rw [z, sim.ls] at obs
      cases obs
    have fin : ¬ (m.run (opOf c)).2.code < 0 → ∀ H' p, Left A.c_Simulator H H' a l (m.run (opOf c)).1.ring (m.run (opOf c)).1.time → H p = none →
        H' p = some (.lst ((resultRow (m.run (opOf c)).2).map V.int)) → Q (.ref p) H' := fun _ H' p L np hp => by
      obtain ⟨⟨l', S', hl'⟩, kept, stay⟩ := L
      refine kQ H' p [a, l'] (.on dx a l' _ (kept _ _ ob (Ne.symm ne) sl) S' (run_fine fine _) ne) ⟨fun b o e h1 h2 => kept b o e ?_ ?_, fun b h2 => ?_, stay⟩ np hp
      · intro z; exact h2 (by rw [z]; simp)
      · intro z; exact h2 (by rw [z]; simp)
      · rcases List.mem_cons.mp h2 with z | z
        · exact .inl (by rw [z]; simp)
        · rcases List.mem_cons.mp z with z | z
          · rcases hl' with y | y
            · exact .inl (by rw [z, y]; simp)
            · exact .inr (by rw [z]; exact y)
          · cases z
    have hok : (1 ≤ pn c ∧ pn c ≤ 9) ∨ (10 ≤ pn c ∧ pn c ≤ 22) := pn_two hf n0
    refine ⟨_, rfl, _, _, rfl, rfl, _, rfl, ite2 (fun c1 => ?_) (fun c1 => ?_)⟩
    · have c1' : pn c ≤ 9 := of_decide_eq_true c1
      exact ⟨_, rfl, s, _, ds, _, _, rfl, obs, T.cl_Session, T.na_Session_simulator, sesF_get _, _, rfl, _, rfl, a, l, b, m, c, rfl, hf, by omega, sim, fine, hb, err, fin⟩
    · have c1' : ¬ pn c ≤ 9 := fun z => c1 (decide_eq_true z)
      exact ⟨_, rfl, s, _, ds, _, _, rfl, obs, T.cl_Session, T.na_Session_simulator, sesF_get _, _, rfl, _, rfl, a, l, b, m, c, rfl, hf, by omega, sim, fine, hb, err, fin⟩
end
end Sw

set_option Elab.async false
set_option linter.all false
set_option maxRecDepth 100000
set_option maxHeartbeats 4000000
namespace Sw
open PySem PySem.Spec PyProof.Rows L2
section
variable {K : PySem.W.Frag} {C N : Addr} {nm q : Str} {bs bm : List Value} {sn : List Str} {sub : List Value} {ab : Bool}
  {col : Option Bool} {dd : Option Addr} {m0 m1 m2 m3 m5 : Option Value}
theorem ini_of (xL : K.lookup C = some (excClassObj nm q C N bs bm true sn sub ab col dd m0 m1 m2 m3 m5 "Exception.__new__"))
    (ht : PySem.W.excTail PySem.ESX.exTail bm = true) : PySem.W.excInitIn K C PySem.ESX.exTail "Exception.__new__" = true := by
  unfold PySem.W.excInitIn
  rw [xL]
  show (C == C && ("Exception.__new__" == "Exception.__new__") && !false && PySem.W.excTail PySem.ESX.exTail bm) = true
  rw [ht]
  simp
theorem ovr_of (xL : K.lookup C = some (excClassObj nm q C N bs bm true sn sub ab col dd m0 m1 m2 m3 m5 "Exception.__new__"))
    (ht : PySem.W.excTail PySem.ESX.exTail bm = true) : PySem.W.excOver K C PySem.ESX.exTail = true := by
  unfold PySem.W.excOver PySem.W.clsIn
  rw [xL]
  show (C == C && PySem.W.excTail PySem.ESX.exTail bm) = true
  rw [ht]
  simp
/-- an error of the class at C is what «except S» names -/
theorem exm_of' {S : Addr} (h1 : PySem.W.subIn K (.ref C) (.type "BaseException") = some true) (h2 : PySem.W.isClsIn K S = true)
    (h3 : PySem.W.typeIn K (.ref S) = some (.type "type")) (h4 : PySem.W.subIn K (.ref C) (.ref S) = some true)
    (h5 : PySem.W.subIn K (.ref S) (.type "BaseException") = some true) :
    PySem.W.exmOne K (.ref C) (.ref S) = some true := by
  have e1 : (PySem.W.subIn K (.ref S) (.type "BaseException") == some true) = true := by rw [h5] <;> rfl
  have e2 : ((PySem.W.clsIn K S).isSome && PySem.W.typeIn K (.ref S) == some (.type "type")) = true := by
    have h2' : (PySem.W.clsIn K S).isSome = true := h2
    rw [h2', h3] <;> rfl
  show (if (PySem.W.subIn K (.ref S) (.type "BaseException") == some true) = true then (if ((PySem.W.clsIn K S).isSome && PySem.W.typeIn K (.ref S) == some (.type "type")) = true then PySem.W.subIn K (.ref C) (.ref S) else none) else none) = some true
  rw [if_pos e1, if_pos e2]
  exact h4
end
theorem find_init {K : PySem.W.Frag} : PySem.W.findCls K (.type "Exception") (.type "type") "__init__" = some (.val (.builtin "Exception.__init__")) := by kernel_rfl
end Sw

set_option Elab.async false
set_option linter.all false
set_option maxRecDepth 100000
set_option maxHeartbeats 8000000
namespace Sw
open PySem PySem.Spec PyProof.Rows L2
theorem all_mk {P : Program} {w : World} {K : PySem.W.Frag} {h : Heap} {mg : Str → Option Value} {fa : Addr} (X : K.In h) (G : h.Ns mainGlobals mg) (hfa : mg "answers" = some (.ref fa))
    {c_Refusal c_NoSimulator c_NoSection c_NotSeated c_OutOfRange c_NeverHappens c_Simulator c_Session f_split_calls f_Refusal_init f_NoSimulator_init f_NoSection_init f_NotSeated_init f_OutOfRange_init f_NeverHappens_init f_next_section f_previous_section f_standing_in f_section_after_step f_after_step f_after_steps f_rotated f_mirrored f_rings_until_repeat f_steps_to_quiet f_steps_to_standing f_cycle_of f_most_standing f_phase_difference f_winding_of f_is_wave f_is_forward_wave f_is_backward_wave f_forward_waves_in f_backward_waves_in f_require_at_most f_Simulator_init f_Simulator_require_section f_Simulator_require_seated f_Simulator_set_section f_Simulator_set_all f_Simulator_stand_up f_Simulator_start_wave f_Simulator_step f_Simulator_advance f_Simulator_rotate f_Simulator_mirror f_Simulator_sit_down f_Simulator_get_ring f_Simulator_get_section f_Simulator_ring_after f_Simulator_winding_number f_Simulator_steps_until_quiet f_Simulator_cycle f_Simulator_forward_waves f_Simulator_backward_waves f_Simulator_standing_count f_Simulator_max_standing f_Simulator_first_standing f_Simulator_quiet_if_stand_up f_Simulator_get_state f_answer_change f_answer_query f_Session_init f_Session_answer f_Session_execute f_Session_create f_answers t_ARGUMENT_COUNTS N_Refusal N_NoSimulator N_NoSection N_NotSeated N_OutOfRange N_NeverHappens : Addr}
    {od_ARGUMENT_COUNTS od_split_calls an_split_calls od_Refusal_init an_Refusal_init od_NoSimulator_init an_NoSimulator_init od_NoSection_init an_NoSection_init od_NotSeated_init an_NotSeated_init od_OutOfRange_init an_OutOfRange_init od_NeverHappens_init an_NeverHappens_init od_next_section an_next_section od_previous_section an_previous_section od_standing_in an_standing_in od_section_after_step an_section_after_step od_after_step an_after_step od_after_steps an_after_steps od_rotated an_rotated od_mirrored an_mirrored od_rings_until_repeat an_rings_until_repeat od_steps_to_quiet an_steps_to_quiet od_steps_to_standing an_steps_to_standing od_cycle_of an_cycle_of od_most_standing an_most_standing od_phase_difference an_phase_difference od_winding_of an_winding_of od_is_wave an_is_wave od_is_forward_wave an_is_forward_wave od_is_backward_wave an_is_backward_wave od_forward_waves_in an_forward_waves_in od_backward_waves_in an_backward_waves_in od_require_at_most an_require_at_most od_Simulator_init an_Simulator_init od_Simulator_require_section an_Simulator_require_section od_Simulator_require_seated an_Simulator_require_seated od_Simulator_set_section an_Simulator_set_section od_Simulator_set_all an_Simulator_set_all od_Simulator_stand_up an_Simulator_stand_up od_Simulator_start_wave an_Simulator_start_wave od_Simulator_step an_Simulator_step od_Simulator_advance an_Simulator_advance od_Simulator_rotate an_Simulator_rotate od_Simulator_mirror an_Simulator_mirror od_Simulator_sit_down an_Simulator_sit_down od_Simulator_get_ring an_Simulator_get_ring od_Simulator_get_section an_Simulator_get_section od_Simulator_ring_after an_Simulator_ring_after od_Simulator_winding_number an_Simulator_winding_number od_Simulator_steps_until_quiet an_Simulator_steps_until_quiet od_Simulator_cycle an_Simulator_cycle od_Simulator_forward_waves an_Simulator_forward_waves od_Simulator_backward_waves an_Simulator_backward_waves od_Simulator_standing_count an_Simulator_standing_count od_Simulator_max_standing an_Simulator_max_standing od_Simulator_first_standing an_Simulator_first_standing od_Simulator_quiet_if_stand_up an_Simulator_quiet_if_stand_up od_Simulator_get_state an_Simulator_get_state od_answer_change an_answer_change od_answer_query an_answer_query od_Session_init an_Session_init od_Session_answer an_Session_answer od_Session_execute an_Session_execute od_Session_create an_Session_create od_answers an_answers dd_Refusal dd_NoSimulator dd_NoSection dd_NotSeated dd_OutOfRange dd_NeverHappens : Option Addr}
    {oc_split_calls kV_split_calls dc_split_calls pm_split_calls cd_split_calls ct_split_calls oc_Refusal_init kV_Refusal_init dc_Refusal_init pm_Refusal_init cd_Refusal_init ct_Refusal_init oc_NoSimulator_init kV_NoSimulator_init dc_NoSimulator_init pm_NoSimulator_init cd_NoSimulator_init ct_NoSimulator_init oc_NoSection_init kV_NoSection_init dc_NoSection_init pm_NoSection_init cd_NoSection_init ct_NoSection_init oc_NotSeated_init kV_NotSeated_init dc_NotSeated_init pm_NotSeated_init cd_NotSeated_init ct_NotSeated_init oc_OutOfRange_init kV_OutOfRange_init dc_OutOfRange_init pm_OutOfRange_init cd_OutOfRange_init ct_OutOfRange_init oc_NeverHappens_init kV_NeverHappens_init dc_NeverHappens_init pm_NeverHappens_init cd_NeverHappens_init ct_NeverHappens_init oc_next_section kV_next_section dc_next_section pm_next_section cd_next_section ct_next_section oc_previous_section kV_previous_section dc_previous_section pm_previous_section cd_previous_section ct_previous_section oc_standing_in kV_standing_in dc_standing_in pm_standing_in cd_standing_in ct_standing_in oc_section_after_step kV_section_after_step dc_section_after_step pm_section_after_step cd_section_after_step ct_section_after_step oc_after_step kV_after_step dc_after_step pm_after_step cd_after_step ct_after_step oc_after_steps kV_after_steps dc_after_steps pm_after_steps cd_after_steps ct_after_steps oc_rotated kV_rotated dc_rotated pm_rotated cd_rotated ct_rotated oc_mirrored kV_mirrored dc_mirrored pm_mirrored cd_mirrored ct_mirrored oc_rings_until_repeat kV_rings_until_repeat dc_rings_until_repeat pm_rings_until_repeat cd_rings_until_repeat ct_rings_until_repeat oc_steps_to_quiet kV_steps_to_quiet dc_steps_to_quiet pm_steps_to_quiet cd_steps_to_quiet ct_steps_to_quiet oc_steps_to_standing kV_steps_to_standing dc_steps_to_standing pm_steps_to_standing cd_steps_to_standing ct_steps_to_standing oc_cycle_of kV_cycle_of dc_cycle_of pm_cycle_of cd_cycle_of ct_cycle_of oc_most_standing kV_most_standing dc_most_standing pm_most_standing cd_most_standing ct_most_standing oc_phase_difference kV_phase_difference dc_phase_difference pm_phase_difference cd_phase_difference ct_phase_difference oc_winding_of kV_winding_of dc_winding_of pm_winding_of cd_winding_of ct_winding_of oc_is_wave kV_is_wave dc_is_wave pm_is_wave cd_is_wave ct_is_wave oc_is_forward_wave kV_is_forward_wave dc_is_forward_wave pm_is_forward_wave cd_is_forward_wave ct_is_forward_wave oc_is_backward_wave kV_is_backward_wave dc_is_backward_wave pm_is_backward_wave cd_is_backward_wave ct_is_backward_wave oc_forward_waves_in kV_forward_waves_in dc_forward_waves_in pm_forward_waves_in cd_forward_waves_in ct_forward_waves_in oc_backward_waves_in kV_backward_waves_in dc_backward_waves_in pm_backward_waves_in cd_backward_waves_in ct_backward_waves_in oc_require_at_most kV_require_at_most dc_require_at_most pm_require_at_most cd_require_at_most ct_require_at_most oc_Simulator_init kV_Simulator_init dc_Simulator_init pm_Simulator_init cd_Simulator_init ct_Simulator_init oc_Simulator_require_section kV_Simulator_require_section dc_Simulator_require_section pm_Simulator_require_section cd_Simulator_require_section ct_Simulator_require_section oc_Simulator_require_seated kV_Simulator_require_seated dc_Simulator_require_seated pm_Simulator_require_seated cd_Simulator_require_seated ct_Simulator_require_seated oc_Simulator_set_section kV_Simulator_set_section dc_Simulator_set_section pm_Simulator_set_section cd_Simulator_set_section ct_Simulator_set_section oc_Simulator_set_all kV_Simulator_set_all dc_Simulator_set_all pm_Simulator_set_all cd_Simulator_set_all ct_Simulator_set_all oc_Simulator_stand_up kV_Simulator_stand_up dc_Simulator_stand_up pm_Simulator_stand_up cd_Simulator_stand_up ct_Simulator_stand_up oc_Simulator_start_wave kV_Simulator_start_wave dc_Simulator_start_wave pm_Simulator_start_wave cd_Simulator_start_wave ct_Simulator_start_wave oc_Simulator_step kV_Simulator_step dc_Simulator_step pm_Simulator_step cd_Simulator_step ct_Simulator_step oc_Simulator_advance kV_Simulator_advance dc_Simulator_advance pm_Simulator_advance cd_Simulator_advance ct_Simulator_advance oc_Simulator_rotate kV_Simulator_rotate dc_Simulator_rotate pm_Simulator_rotate cd_Simulator_rotate ct_Simulator_rotate oc_Simulator_mirror kV_Simulator_mirror dc_Simulator_mirror pm_Simulator_mirror cd_Simulator_mirror ct_Simulator_mirror oc_Simulator_sit_down kV_Simulator_sit_down dc_Simulator_sit_down pm_Simulator_sit_down cd_Simulator_sit_down ct_Simulator_sit_down oc_Simulator_get_ring kV_Simulator_get_ring dc_Simulator_get_ring pm_Simulator_get_ring cd_Simulator_get_ring ct_Simulator_get_ring oc_Simulator_get_section kV_Simulator_get_section dc_Simulator_get_section pm_Simulator_get_section cd_Simulator_get_section ct_Simulator_get_section oc_Simulator_ring_after kV_Simulator_ring_after dc_Simulator_ring_after pm_Simulator_ring_after cd_Simulator_ring_after ct_Simulator_ring_after oc_Simulator_winding_number kV_Simulator_winding_number dc_Simulator_winding_number pm_Simulator_winding_number cd_Simulator_winding_number ct_Simulator_winding_number oc_Simulator_steps_until_quiet kV_Simulator_steps_until_quiet dc_Simulator_steps_until_quiet pm_Simulator_steps_until_quiet cd_Simulator_steps_until_quiet ct_Simulator_steps_until_quiet oc_Simulator_cycle kV_Simulator_cycle dc_Simulator_cycle pm_Simulator_cycle cd_Simulator_cycle ct_Simulator_cycle oc_Simulator_forward_waves kV_Simulator_forward_waves dc_Simulator_forward_waves pm_Simulator_forward_waves cd_Simulator_forward_waves ct_Simulator_forward_waves oc_Simulator_backward_waves kV_Simulator_backward_waves dc_Simulator_backward_waves pm_Simulator_backward_waves cd_Simulator_backward_waves ct_Simulator_backward_waves oc_Simulator_standing_count kV_Simulator_standing_count dc_Simulator_standing_count pm_Simulator_standing_count cd_Simulator_standing_count ct_Simulator_standing_count oc_Simulator_max_standing kV_Simulator_max_standing dc_Simulator_max_standing pm_Simulator_max_standing cd_Simulator_max_standing ct_Simulator_max_standing oc_Simulator_first_standing kV_Simulator_first_standing dc_Simulator_first_standing pm_Simulator_first_standing cd_Simulator_first_standing ct_Simulator_first_standing oc_Simulator_quiet_if_stand_up kV_Simulator_quiet_if_stand_up dc_Simulator_quiet_if_stand_up pm_Simulator_quiet_if_stand_up cd_Simulator_quiet_if_stand_up ct_Simulator_quiet_if_stand_up oc_Simulator_get_state kV_Simulator_get_state dc_Simulator_get_state pm_Simulator_get_state cd_Simulator_get_state ct_Simulator_get_state oc_answer_change kV_answer_change dc_answer_change pm_answer_change cd_answer_change ct_answer_change oc_answer_query kV_answer_query dc_answer_query pm_answer_query cd_answer_query ct_answer_query oc_Session_init kV_Session_init dc_Session_init pm_Session_init cd_Session_init ct_Session_init oc_Session_answer kV_Session_answer dc_Session_answer pm_Session_answer cd_Session_answer ct_Session_answer oc_Session_execute kV_Session_execute dc_Session_execute pm_Session_execute cd_Session_execute ct_Session_execute oc_Session_create kV_Session_create dc_Session_create pm_Session_create cd_Session_create ct_Session_create oc_answers kV_answers dc_answers pm_answers cd_answers ct_answers : Value}
    {k_CREATE k_SET_SECTION k_SET_ALL k_STAND_UP k_START_WAVE k_STEP k_ADVANCE k_ROTATE k_MIRROR k_SIT_DOWN k_GET_RING k_GET_SECTION k_RING_AFTER k_WINDING_NUMBER k_STEPS_UNTIL_QUIET k_CYCLE k_FORWARD_WAVES k_BACKWARD_WAVES k_STANDING_COUNT k_MAX_STANDING k_FIRST_STANDING k_QUIET_IF_STAND_UP k_ARGUMENT_COUNTS_0 k_ARGUMENT_COUNTS_1 k_ARGUMENT_COUNTS_2 k_ARGUMENT_COUNTS_3 k_ARGUMENT_COUNTS_4 k_ARGUMENT_COUNTS_5 k_ARGUMENT_COUNTS_6 k_ARGUMENT_COUNTS_7 k_ARGUMENT_COUNTS_8 k_ARGUMENT_COUNTS_9 k_ARGUMENT_COUNTS_10 k_ARGUMENT_COUNTS_11 k_ARGUMENT_COUNTS_12 k_ARGUMENT_COUNTS_13 k_ARGUMENT_COUNTS_14 k_ARGUMENT_COUNTS_15 k_ARGUMENT_COUNTS_16 k_ARGUMENT_COUNTS_17 k_ARGUMENT_COUNTS_18 k_ARGUMENT_COUNTS_19 k_ARGUMENT_COUNTS_20 k_ARGUMENT_COUNTS_21 k_ARGUMENT_COUNTS_22 k_SEATED k_STANDING k_RESTING k_MOST_STEPS_AHEAD k_TOWARDS_NEXT k_TOWARDS_PREVIOUS k_MOST_STEPS k_GREATEST_DISTANCE k_FEWEST_SECTIONS k_MOST_SECTIONS : Tok}
    {sl_ARGUMENT_COUNTS sl_split_calls sl_Refusal_init sl_NoSimulator_init sl_NoSection_init sl_NotSeated_init sl_OutOfRange_init sl_NeverHappens_init sl_next_section sl_previous_section sl_standing_in sl_section_after_step sl_after_step sl_after_steps sl_rotated sl_mirrored sl_rings_until_repeat sl_steps_to_quiet sl_steps_to_standing sl_cycle_of sl_most_standing sl_phase_difference sl_winding_of sl_is_wave sl_is_forward_wave sl_is_backward_wave sl_forward_waves_in sl_backward_waves_in sl_require_at_most sl_Simulator_init sl_Simulator_require_section sl_Simulator_require_seated sl_Simulator_set_section sl_Simulator_set_all sl_Simulator_stand_up sl_Simulator_start_wave sl_Simulator_step sl_Simulator_advance sl_Simulator_rotate sl_Simulator_mirror sl_Simulator_sit_down sl_Simulator_get_ring sl_Simulator_get_section sl_Simulator_ring_after sl_Simulator_winding_number sl_Simulator_steps_until_quiet sl_Simulator_cycle sl_Simulator_forward_waves sl_Simulator_backward_waves sl_Simulator_standing_count sl_Simulator_max_standing sl_Simulator_first_standing sl_Simulator_quiet_if_stand_up sl_Simulator_get_state sl_answer_change sl_answer_query sl_Session_init sl_Session_answer sl_Session_execute sl_Session_create sl_answers : Array (Option Value)}
    {nn_ARGUMENT_COUNTS : Nat}
    {nm_Refusal qq_Refusal nm_NoSimulator qq_NoSimulator nm_NoSection qq_NoSection nm_NotSeated qq_NotSeated nm_OutOfRange qq_OutOfRange nm_NeverHappens qq_NeverHappens : Str} {bs_Refusal sub_Refusal bs_NoSimulator sub_NoSimulator bs_NoSection sub_NoSection bs_NotSeated sub_NotSeated bs_OutOfRange sub_OutOfRange bs_NeverHappens sub_NeverHappens : List Value} {sn_Refusal sn_NoSimulator sn_NoSection sn_NotSeated sn_OutOfRange sn_NeverHappens : List Str} {ab_Refusal ab_NoSimulator ab_NoSection ab_NotSeated ab_OutOfRange ab_NeverHappens : Bool} {col_Refusal col_NoSimulator col_NoSection col_NotSeated col_OutOfRange col_NeverHappens : Option Bool} {m0_Refusal m1_Refusal m2_Refusal m3_Refusal m5_Refusal m0_NoSimulator m1_NoSimulator m2_NoSimulator m3_NoSimulator m5_NoSimulator m0_NoSection m1_NoSection m2_NoSection m3_NoSection m5_NoSection m0_NotSeated m1_NotSeated m2_NotSeated m3_NotSeated m5_NotSeated m0_OutOfRange m1_OutOfRange m2_OutOfRange m3_OutOfRange m5_OutOfRange m0_NeverHappens m1_NeverHappens m2_NeverHappens m3_NeverHappens m5_NeverHappens : Option Value}
    (n_len : PySem.W.nsIn K mainGlobals "len" = some none)
    (n_Exception : PySem.W.nsIn K mainGlobals "Exception" = some none)
    (n_range : PySem.W.nsIn K mainGlobals "range" = some none)
    (n_list : PySem.W.nsIn K mainGlobals "list" = some none)
    (n_enumerate : PySem.W.nsIn K mainGlobals "enumerate" = some none)
    (n_max : PySem.W.nsIn K mainGlobals "max" = some none)
    (n_sum : PySem.W.nsIn K mainGlobals "sum" = some none)
    (v_CREATE : PySem.W.nsIn K mainGlobals "CREATE" = some (some (.int 0 k_CREATE)))
    (v_SET_SECTION : PySem.W.nsIn K mainGlobals "SET_SECTION" = some (some (.int 1 k_SET_SECTION)))
    (v_SET_ALL : PySem.W.nsIn K mainGlobals "SET_ALL" = some (some (.int 2 k_SET_ALL)))
    (v_STAND_UP : PySem.W.nsIn K mainGlobals "STAND_UP" = some (some (.int 3 k_STAND_UP)))
    (v_START_WAVE : PySem.W.nsIn K mainGlobals "START_WAVE" = some (some (.int 4 k_START_WAVE)))
    (v_STEP : PySem.W.nsIn K mainGlobals "STEP" = some (some (.int 5 k_STEP)))
    (v_ADVANCE : PySem.W.nsIn K mainGlobals "ADVANCE" = some (some (.int 6 k_ADVANCE)))
    (v_ROTATE : PySem.W.nsIn K mainGlobals "ROTATE" = some (some (.int 7 k_ROTATE)))
    (v_MIRROR : PySem.W.nsIn K mainGlobals "MIRROR" = some (some (.int 8 k_MIRROR)))
    (v_SIT_DOWN : PySem.W.nsIn K mainGlobals "SIT_DOWN" = some (some (.int 9 k_SIT_DOWN)))
    (v_GET_RING : PySem.W.nsIn K mainGlobals "GET_RING" = some (some (.int 10 k_GET_RING)))
    (v_GET_SECTION : PySem.W.nsIn K mainGlobals "GET_SECTION" = some (some (.int 11 k_GET_SECTION)))
    (v_RING_AFTER : PySem.W.nsIn K mainGlobals "RING_AFTER" = some (some (.int 12 k_RING_AFTER)))
    (v_WINDING_NUMBER : PySem.W.nsIn K mainGlobals "WINDING_NUMBER" = some (some (.int 13 k_WINDING_NUMBER)))
    (v_STEPS_UNTIL_QUIET : PySem.W.nsIn K mainGlobals "STEPS_UNTIL_QUIET" = some (some (.int 14 k_STEPS_UNTIL_QUIET)))
    (v_CYCLE : PySem.W.nsIn K mainGlobals "CYCLE" = some (some (.int 15 k_CYCLE)))
    (v_FORWARD_WAVES : PySem.W.nsIn K mainGlobals "FORWARD_WAVES" = some (some (.int 16 k_FORWARD_WAVES)))
    (v_BACKWARD_WAVES : PySem.W.nsIn K mainGlobals "BACKWARD_WAVES" = some (some (.int 17 k_BACKWARD_WAVES)))
    (v_STANDING_COUNT : PySem.W.nsIn K mainGlobals "STANDING_COUNT" = some (some (.int 18 k_STANDING_COUNT)))
    (v_MAX_STANDING : PySem.W.nsIn K mainGlobals "MAX_STANDING" = some (some (.int 19 k_MAX_STANDING)))
    (v_FIRST_STANDING : PySem.W.nsIn K mainGlobals "FIRST_STANDING" = some (some (.int 20 k_FIRST_STANDING)))
    (v_QUIET_IF_STAND_UP : PySem.W.nsIn K mainGlobals "QUIET_IF_STAND_UP" = some (some (.int 21 k_QUIET_IF_STAND_UP)))
    (v_ARGUMENT_COUNTS : PySem.W.nsIn K mainGlobals "ARGUMENT_COUNTS" = some (some (.ref t_ARGUMENT_COUNTS)))
    (u_ARGUMENT_COUNTS : K.lookup t_ARGUMENT_COUNTS = some ⟨.type "tuple", od_ARGUMENT_COUNTS, .seq #[.int 1 k_ARGUMENT_COUNTS_0, .int 2 k_ARGUMENT_COUNTS_1, .int 0 k_ARGUMENT_COUNTS_2, .int 1 k_ARGUMENT_COUNTS_3, .int 2 k_ARGUMENT_COUNTS_4, .int 0 k_ARGUMENT_COUNTS_5, .int 1 k_ARGUMENT_COUNTS_6, .int 1 k_ARGUMENT_COUNTS_7, .int 0 k_ARGUMENT_COUNTS_8, .int 0 k_ARGUMENT_COUNTS_9, .int 0 k_ARGUMENT_COUNTS_10, .int 1 k_ARGUMENT_COUNTS_11, .int 1 k_ARGUMENT_COUNTS_12, .int 0 k_ARGUMENT_COUNTS_13, .int 0 k_ARGUMENT_COUNTS_14, .int 0 k_ARGUMENT_COUNTS_15, .int 0 k_ARGUMENT_COUNTS_16, .int 0 k_ARGUMENT_COUNTS_17, .int 0 k_ARGUMENT_COUNTS_18, .int 0 k_ARGUMENT_COUNTS_19, .int 1 k_ARGUMENT_COUNTS_20, .int 1 k_ARGUMENT_COUNTS_21, .int 0 k_ARGUMENT_COUNTS_22] nn_ARGUMENT_COUNTS, sl_ARGUMENT_COUNTS⟩)
    (v_SEATED : PySem.W.nsIn K mainGlobals "SEATED" = some (some (.int 0 k_SEATED)))
    (v_STANDING : PySem.W.nsIn K mainGlobals "STANDING" = some (some (.int 1 k_STANDING)))
    (v_RESTING : PySem.W.nsIn K mainGlobals "RESTING" = some (some (.int 2 k_RESTING)))
    (v_MOST_STEPS_AHEAD : PySem.W.nsIn K mainGlobals "MOST_STEPS_AHEAD" = some (some (.int 60 k_MOST_STEPS_AHEAD)))
    (v_TOWARDS_NEXT : PySem.W.nsIn K mainGlobals "TOWARDS_NEXT" = some (some (.int 0 k_TOWARDS_NEXT)))
    (v_TOWARDS_PREVIOUS : PySem.W.nsIn K mainGlobals "TOWARDS_PREVIOUS" = some (some (.int 1 k_TOWARDS_PREVIOUS)))
    (v_MOST_STEPS : PySem.W.nsIn K mainGlobals "MOST_STEPS" = some (some (.int 40 k_MOST_STEPS)))
    (v_GREATEST_DISTANCE : PySem.W.nsIn K mainGlobals "GREATEST_DISTANCE" = some (some (.int 12 k_GREATEST_DISTANCE)))
    (v_FEWEST_SECTIONS : PySem.W.nsIn K mainGlobals "FEWEST_SECTIONS" = some (some (.int 3 k_FEWEST_SECTIONS)))
    (v_MOST_SECTIONS : PySem.W.nsIn K mainGlobals "MOST_SECTIONS" = some (some (.int 12 k_MOST_SECTIONS)))
    (g_Refusal : PySem.W.nsIn K mainGlobals "Refusal" = some (some (.ref c_Refusal)))
    (g_NoSimulator : PySem.W.nsIn K mainGlobals "NoSimulator" = some (some (.ref c_NoSimulator)))
    (g_NoSection : PySem.W.nsIn K mainGlobals "NoSection" = some (some (.ref c_NoSection)))
    (g_NotSeated : PySem.W.nsIn K mainGlobals "NotSeated" = some (some (.ref c_NotSeated)))
    (g_OutOfRange : PySem.W.nsIn K mainGlobals "OutOfRange" = some (some (.ref c_OutOfRange)))
    (g_NeverHappens : PySem.W.nsIn K mainGlobals "NeverHappens" = some (some (.ref c_NeverHappens)))
    (g_Simulator : PySem.W.nsIn K mainGlobals "Simulator" = some (some (.ref c_Simulator)))
    (g_Session : PySem.W.nsIn K mainGlobals "Session" = some (some (.ref c_Session)))
    (a_split_calls : PySem.W.nsIn K mainGlobals "split_calls" = some (some (.ref f_split_calls)))
    (l_split_calls : K.lookup f_split_calls = some ⟨oc_split_calls, od_split_calls, .func (PySem.W.fnOf "split_calls" "split_calls" (defArgs s_split_calls) (defBody s_split_calls) (defScope s_split_calls) .none kV_split_calls dc_split_calls pm_split_calls an_split_calls cd_split_calls ct_split_calls), sl_split_calls⟩)
    (c_split_calls_ : PySem.W.codeIn K cd_split_calls "split_calls" = true)
    (k_split_calls_ : PySem.W.keepIn K (.ref f_split_calls) = true)
    (a_Refusal_init : PySem.W.findIn K (.ref c_Refusal) "__init__" = some (some (.ref f_Refusal_init)))
    (i_Refusal_init : PySem.W.isFn K (.ref f_Refusal_init) = true)
    (ti_Refusal_init : PySem.W.typeIn K (.ref f_Refusal_init) = some (.type "function"))
    (l_Refusal_init : K.lookup f_Refusal_init = some ⟨oc_Refusal_init, od_Refusal_init, .func (PySem.W.fnOf "__init__" "Refusal.__init__" (defArgs s_Refusal_init) (defBody s_Refusal_init) (defScope s_Refusal_init) .none kV_Refusal_init dc_Refusal_init pm_Refusal_init an_Refusal_init cd_Refusal_init ct_Refusal_init), sl_Refusal_init⟩)
    (c_Refusal_init_ : PySem.W.codeIn K cd_Refusal_init "Refusal.__init__" = true)
    (k_Refusal_init_ : PySem.W.keepIn K (.ref f_Refusal_init) = true)
    (a_NoSimulator_init : PySem.W.findIn K (.ref c_NoSimulator) "__init__" = some (some (.ref f_NoSimulator_init)))
    (i_NoSimulator_init : PySem.W.isFn K (.ref f_NoSimulator_init) = true)
    (ti_NoSimulator_init : PySem.W.typeIn K (.ref f_NoSimulator_init) = some (.type "function"))
    (l_NoSimulator_init : K.lookup f_NoSimulator_init = some ⟨oc_NoSimulator_init, od_NoSimulator_init, .func (PySem.W.fnOf "__init__" "NoSimulator.__init__" (defArgs s_NoSimulator_init) (defBody s_NoSimulator_init) (defScope s_NoSimulator_init) .none kV_NoSimulator_init dc_NoSimulator_init pm_NoSimulator_init an_NoSimulator_init cd_NoSimulator_init ct_NoSimulator_init), sl_NoSimulator_init⟩)
    (c_NoSimulator_init_ : PySem.W.codeIn K cd_NoSimulator_init "NoSimulator.__init__" = true)
    (k_NoSimulator_init_ : PySem.W.keepIn K (.ref f_NoSimulator_init) = true)
    (a_NoSection_init : PySem.W.findIn K (.ref c_NoSection) "__init__" = some (some (.ref f_NoSection_init)))
    (i_NoSection_init : PySem.W.isFn K (.ref f_NoSection_init) = true)
    (ti_NoSection_init : PySem.W.typeIn K (.ref f_NoSection_init) = some (.type "function"))
    (l_NoSection_init : K.lookup f_NoSection_init = some ⟨oc_NoSection_init, od_NoSection_init, .func (PySem.W.fnOf "__init__" "NoSection.__init__" (defArgs s_NoSection_init) (defBody s_NoSection_init) (defScope s_NoSection_init) .none kV_NoSection_init dc_NoSection_init pm_NoSection_init an_NoSection_init cd_NoSection_init ct_NoSection_init), sl_NoSection_init⟩)
    (c_NoSection_init_ : PySem.W.codeIn K cd_NoSection_init "NoSection.__init__" = true)
    (k_NoSection_init_ : PySem.W.keepIn K (.ref f_NoSection_init) = true)
    (a_NotSeated_init : PySem.W.findIn K (.ref c_NotSeated) "__init__" = some (some (.ref f_NotSeated_init)))
    (i_NotSeated_init : PySem.W.isFn K (.ref f_NotSeated_init) = true)
    (ti_NotSeated_init : PySem.W.typeIn K (.ref f_NotSeated_init) = some (.type "function"))
    (l_NotSeated_init : K.lookup f_NotSeated_init = some ⟨oc_NotSeated_init, od_NotSeated_init, .func (PySem.W.fnOf "__init__" "NotSeated.__init__" (defArgs s_NotSeated_init) (defBody s_NotSeated_init) (defScope s_NotSeated_init) .none kV_NotSeated_init dc_NotSeated_init pm_NotSeated_init an_NotSeated_init cd_NotSeated_init ct_NotSeated_init), sl_NotSeated_init⟩)
    (c_NotSeated_init_ : PySem.W.codeIn K cd_NotSeated_init "NotSeated.__init__" = true)
    (k_NotSeated_init_ : PySem.W.keepIn K (.ref f_NotSeated_init) = true)
    (a_OutOfRange_init : PySem.W.findIn K (.ref c_OutOfRange) "__init__" = some (some (.ref f_OutOfRange_init)))
    (i_OutOfRange_init : PySem.W.isFn K (.ref f_OutOfRange_init) = true)
    (ti_OutOfRange_init : PySem.W.typeIn K (.ref f_OutOfRange_init) = some (.type "function"))
    (l_OutOfRange_init : K.lookup f_OutOfRange_init = some ⟨oc_OutOfRange_init, od_OutOfRange_init, .func (PySem.W.fnOf "__init__" "OutOfRange.__init__" (defArgs s_OutOfRange_init) (defBody s_OutOfRange_init) (defScope s_OutOfRange_init) .none kV_OutOfRange_init dc_OutOfRange_init pm_OutOfRange_init an_OutOfRange_init cd_OutOfRange_init ct_OutOfRange_init), sl_OutOfRange_init⟩)
    (c_OutOfRange_init_ : PySem.W.codeIn K cd_OutOfRange_init "OutOfRange.__init__" = true)
    (k_OutOfRange_init_ : PySem.W.keepIn K (.ref f_OutOfRange_init) = true)
    (a_NeverHappens_init : PySem.W.findIn K (.ref c_NeverHappens) "__init__" = some (some (.ref f_NeverHappens_init)))
    (i_NeverHappens_init : PySem.W.isFn K (.ref f_NeverHappens_init) = true)
    (ti_NeverHappens_init : PySem.W.typeIn K (.ref f_NeverHappens_init) = some (.type "function"))
    (l_NeverHappens_init : K.lookup f_NeverHappens_init = some ⟨oc_NeverHappens_init, od_NeverHappens_init, .func (PySem.W.fnOf "__init__" "NeverHappens.__init__" (defArgs s_NeverHappens_init) (defBody s_NeverHappens_init) (defScope s_NeverHappens_init) .none kV_NeverHappens_init dc_NeverHappens_init pm_NeverHappens_init an_NeverHappens_init cd_NeverHappens_init ct_NeverHappens_init), sl_NeverHappens_init⟩)
    (c_NeverHappens_init_ : PySem.W.codeIn K cd_NeverHappens_init "NeverHappens.__init__" = true)
    (k_NeverHappens_init_ : PySem.W.keepIn K (.ref f_NeverHappens_init) = true)
    (a_next_section : PySem.W.nsIn K mainGlobals "next_section" = some (some (.ref f_next_section)))
    (l_next_section : K.lookup f_next_section = some ⟨oc_next_section, od_next_section, .func (PySem.W.fnOf "next_section" "next_section" (defArgs s_next_section) (defBody s_next_section) (defScope s_next_section) .none kV_next_section dc_next_section pm_next_section an_next_section cd_next_section ct_next_section), sl_next_section⟩)
    (c_next_section_ : PySem.W.codeIn K cd_next_section "next_section" = true)
    (k_next_section_ : PySem.W.keepIn K (.ref f_next_section) = true)
    (a_previous_section : PySem.W.nsIn K mainGlobals "previous_section" = some (some (.ref f_previous_section)))
    (l_previous_section : K.lookup f_previous_section = some ⟨oc_previous_section, od_previous_section, .func (PySem.W.fnOf "previous_section" "previous_section" (defArgs s_previous_section) (defBody s_previous_section) (defScope s_previous_section) .none kV_previous_section dc_previous_section pm_previous_section an_previous_section cd_previous_section ct_previous_section), sl_previous_section⟩)
    (c_previous_section_ : PySem.W.codeIn K cd_previous_section "previous_section" = true)
    (k_previous_section_ : PySem.W.keepIn K (.ref f_previous_section) = true)
    (a_standing_in : PySem.W.nsIn K mainGlobals "standing_in" = some (some (.ref f_standing_in)))
    (l_standing_in : K.lookup f_standing_in = some ⟨oc_standing_in, od_standing_in, .func (PySem.W.fnOf "standing_in" "standing_in" (defArgs s_standing_in) (defBody s_standing_in) (defScope s_standing_in) .none kV_standing_in dc_standing_in pm_standing_in an_standing_in cd_standing_in ct_standing_in), sl_standing_in⟩)
    (c_standing_in_ : PySem.W.codeIn K cd_standing_in "standing_in" = true)
    (k_standing_in_ : PySem.W.keepIn K (.ref f_standing_in) = true)
    (a_section_after_step : PySem.W.nsIn K mainGlobals "section_after_step" = some (some (.ref f_section_after_step)))
    (l_section_after_step : K.lookup f_section_after_step = some ⟨oc_section_after_step, od_section_after_step, .func (PySem.W.fnOf "section_after_step" "section_after_step" (defArgs s_section_after_step) (defBody s_section_after_step) (defScope s_section_after_step) .none kV_section_after_step dc_section_after_step pm_section_after_step an_section_after_step cd_section_after_step ct_section_after_step), sl_section_after_step⟩)
    (c_section_after_step_ : PySem.W.codeIn K cd_section_after_step "section_after_step" = true)
    (k_section_after_step_ : PySem.W.keepIn K (.ref f_section_after_step) = true)
    (a_after_step : PySem.W.nsIn K mainGlobals "after_step" = some (some (.ref f_after_step)))
    (l_after_step : K.lookup f_after_step = some ⟨oc_after_step, od_after_step, .func (PySem.W.fnOf "after_step" "after_step" (defArgs s_after_step) (defBody s_after_step) (defScope s_after_step) .none kV_after_step dc_after_step pm_after_step an_after_step cd_after_step ct_after_step), sl_after_step⟩)
    (c_after_step_ : PySem.W.codeIn K cd_after_step "after_step" = true)
    (k_after_step_ : PySem.W.keepIn K (.ref f_after_step) = true)
    (a_after_steps : PySem.W.nsIn K mainGlobals "after_steps" = some (some (.ref f_after_steps)))
    (l_after_steps : K.lookup f_after_steps = some ⟨oc_after_steps, od_after_steps, .func (PySem.W.fnOf "after_steps" "after_steps" (defArgs s_after_steps) (defBody s_after_steps) (defScope s_after_steps) .none kV_after_steps dc_after_steps pm_after_steps an_after_steps cd_after_steps ct_after_steps), sl_after_steps⟩)
    (c_after_steps_ : PySem.W.codeIn K cd_after_steps "after_steps" = true)
    (k_after_steps_ : PySem.W.keepIn K (.ref f_after_steps) = true)
    (a_rotated : PySem.W.nsIn K mainGlobals "rotated" = some (some (.ref f_rotated)))
    (l_rotated : K.lookup f_rotated = some ⟨oc_rotated, od_rotated, .func (PySem.W.fnOf "rotated" "rotated" (defArgs s_rotated) (defBody s_rotated) (defScope s_rotated) .none kV_rotated dc_rotated pm_rotated an_rotated cd_rotated ct_rotated), sl_rotated⟩)
    (c_rotated_ : PySem.W.codeIn K cd_rotated "rotated" = true)
    (k_rotated_ : PySem.W.keepIn K (.ref f_rotated) = true)
    (a_mirrored : PySem.W.nsIn K mainGlobals "mirrored" = some (some (.ref f_mirrored)))
    (l_mirrored : K.lookup f_mirrored = some ⟨oc_mirrored, od_mirrored, .func (PySem.W.fnOf "mirrored" "mirrored" (defArgs s_mirrored) (defBody s_mirrored) (defScope s_mirrored) .none kV_mirrored dc_mirrored pm_mirrored an_mirrored cd_mirrored ct_mirrored), sl_mirrored⟩)
    (c_mirrored_ : PySem.W.codeIn K cd_mirrored "mirrored" = true)
    (k_mirrored_ : PySem.W.keepIn K (.ref f_mirrored) = true)
    (a_rings_until_repeat : PySem.W.nsIn K mainGlobals "rings_until_repeat" = some (some (.ref f_rings_until_repeat)))
    (l_rings_until_repeat : K.lookup f_rings_until_repeat = some ⟨oc_rings_until_repeat, od_rings_until_repeat, .func (PySem.W.fnOf "rings_until_repeat" "rings_until_repeat" (defArgs s_rings_until_repeat) (defBody s_rings_until_repeat) (defScope s_rings_until_repeat) .none kV_rings_until_repeat dc_rings_until_repeat pm_rings_until_repeat an_rings_until_repeat cd_rings_until_repeat ct_rings_until_repeat), sl_rings_until_repeat⟩)
    (c_rings_until_repeat_ : PySem.W.codeIn K cd_rings_until_repeat "rings_until_repeat" = true)
    (k_rings_until_repeat_ : PySem.W.keepIn K (.ref f_rings_until_repeat) = true)
    (a_steps_to_quiet : PySem.W.nsIn K mainGlobals "steps_to_quiet" = some (some (.ref f_steps_to_quiet)))
    (l_steps_to_quiet : K.lookup f_steps_to_quiet = some ⟨oc_steps_to_quiet, od_steps_to_quiet, .func (PySem.W.fnOf "steps_to_quiet" "steps_to_quiet" (defArgs s_steps_to_quiet) (defBody s_steps_to_quiet) (defScope s_steps_to_quiet) .none kV_steps_to_quiet dc_steps_to_quiet pm_steps_to_quiet an_steps_to_quiet cd_steps_to_quiet ct_steps_to_quiet), sl_steps_to_quiet⟩)
    (c_steps_to_quiet_ : PySem.W.codeIn K cd_steps_to_quiet "steps_to_quiet" = true)
    (k_steps_to_quiet_ : PySem.W.keepIn K (.ref f_steps_to_quiet) = true)
    (a_steps_to_standing : PySem.W.nsIn K mainGlobals "steps_to_standing" = some (some (.ref f_steps_to_standing)))
    (l_steps_to_standing : K.lookup f_steps_to_standing = some ⟨oc_steps_to_standing, od_steps_to_standing, .func (PySem.W.fnOf "steps_to_standing" "steps_to_standing" (defArgs s_steps_to_standing) (defBody s_steps_to_standing) (defScope s_steps_to_standing) .none kV_steps_to_standing dc_steps_to_standing pm_steps_to_standing an_steps_to_standing cd_steps_to_standing ct_steps_to_standing), sl_steps_to_standing⟩)
    (c_steps_to_standing_ : PySem.W.codeIn K cd_steps_to_standing "steps_to_standing" = true)
    (k_steps_to_standing_ : PySem.W.keepIn K (.ref f_steps_to_standing) = true)
    (a_cycle_of : PySem.W.nsIn K mainGlobals "cycle_of" = some (some (.ref f_cycle_of)))
    (l_cycle_of : K.lookup f_cycle_of = some ⟨oc_cycle_of, od_cycle_of, .func (PySem.W.fnOf "cycle_of" "cycle_of" (defArgs s_cycle_of) (defBody s_cycle_of) (defScope s_cycle_of) .none kV_cycle_of dc_cycle_of pm_cycle_of an_cycle_of cd_cycle_of ct_cycle_of), sl_cycle_of⟩)
    (c_cycle_of_ : PySem.W.codeIn K cd_cycle_of "cycle_of" = true)
    (k_cycle_of_ : PySem.W.keepIn K (.ref f_cycle_of) = true)
    (a_most_standing : PySem.W.nsIn K mainGlobals "most_standing" = some (some (.ref f_most_standing)))
    (l_most_standing : K.lookup f_most_standing = some ⟨oc_most_standing, od_most_standing, .func (PySem.W.fnOf "most_standing" "most_standing" (defArgs s_most_standing) (defBody s_most_standing) (defScope s_most_standing) .none kV_most_standing dc_most_standing pm_most_standing an_most_standing cd_most_standing ct_most_standing), sl_most_standing⟩)
    (c_most_standing_ : PySem.W.codeIn K cd_most_standing "most_standing" = true)
    (k_most_standing_ : PySem.W.keepIn K (.ref f_most_standing) = true)
    (a_phase_difference : PySem.W.nsIn K mainGlobals "phase_difference" = some (some (.ref f_phase_difference)))
    (l_phase_difference : K.lookup f_phase_difference = some ⟨oc_phase_difference, od_phase_difference, .func (PySem.W.fnOf "phase_difference" "phase_difference" (defArgs s_phase_difference) (defBody s_phase_difference) (defScope s_phase_difference) .none kV_phase_difference dc_phase_difference pm_phase_difference an_phase_difference cd_phase_difference ct_phase_difference), sl_phase_difference⟩)
    (c_phase_difference_ : PySem.W.codeIn K cd_phase_difference "phase_difference" = true)
    (k_phase_difference_ : PySem.W.keepIn K (.ref f_phase_difference) = true)
    (a_winding_of : PySem.W.nsIn K mainGlobals "winding_of" = some (some (.ref f_winding_of)))
    (l_winding_of : K.lookup f_winding_of = some ⟨oc_winding_of, od_winding_of, .func (PySem.W.fnOf "winding_of" "winding_of" (defArgs s_winding_of) (defBody s_winding_of) (defScope s_winding_of) .none kV_winding_of dc_winding_of pm_winding_of an_winding_of cd_winding_of ct_winding_of), sl_winding_of⟩)
    (c_winding_of_ : PySem.W.codeIn K cd_winding_of "winding_of" = true)
    (k_winding_of_ : PySem.W.keepIn K (.ref f_winding_of) = true)
    (a_is_wave : PySem.W.nsIn K mainGlobals "is_wave" = some (some (.ref f_is_wave)))
    (l_is_wave : K.lookup f_is_wave = some ⟨oc_is_wave, od_is_wave, .func (PySem.W.fnOf "is_wave" "is_wave" (defArgs s_is_wave) (defBody s_is_wave) (defScope s_is_wave) .none kV_is_wave dc_is_wave pm_is_wave an_is_wave cd_is_wave ct_is_wave), sl_is_wave⟩)
    (c_is_wave_ : PySem.W.codeIn K cd_is_wave "is_wave" = true)
    (k_is_wave_ : PySem.W.keepIn K (.ref f_is_wave) = true)
    (a_is_forward_wave : PySem.W.nsIn K mainGlobals "is_forward_wave" = some (some (.ref f_is_forward_wave)))
    (l_is_forward_wave : K.lookup f_is_forward_wave = some ⟨oc_is_forward_wave, od_is_forward_wave, .func (PySem.W.fnOf "is_forward_wave" "is_forward_wave" (defArgs s_is_forward_wave) (defBody s_is_forward_wave) (defScope s_is_forward_wave) .none kV_is_forward_wave dc_is_forward_wave pm_is_forward_wave an_is_forward_wave cd_is_forward_wave ct_is_forward_wave), sl_is_forward_wave⟩)
    (c_is_forward_wave_ : PySem.W.codeIn K cd_is_forward_wave "is_forward_wave" = true)
    (k_is_forward_wave_ : PySem.W.keepIn K (.ref f_is_forward_wave) = true)
    (a_is_backward_wave : PySem.W.nsIn K mainGlobals "is_backward_wave" = some (some (.ref f_is_backward_wave)))
    (l_is_backward_wave : K.lookup f_is_backward_wave = some ⟨oc_is_backward_wave, od_is_backward_wave, .func (PySem.W.fnOf "is_backward_wave" "is_backward_wave" (defArgs s_is_backward_wave) (defBody s_is_backward_wave) (defScope s_is_backward_wave) .none kV_is_backward_wave dc_is_backward_wave pm_is_backward_wave an_is_backward_wave cd_is_backward_wave ct_is_backward_wave), sl_is_backward_wave⟩)
    (c_is_backward_wave_ : PySem.W.codeIn K cd_is_backward_wave "is_backward_wave" = true)
    (k_is_backward_wave_ : PySem.W.keepIn K (.ref f_is_backward_wave) = true)
    (a_forward_waves_in : PySem.W.nsIn K mainGlobals "forward_waves_in" = some (some (.ref f_forward_waves_in)))
    (l_forward_waves_in : K.lookup f_forward_waves_in = some ⟨oc_forward_waves_in, od_forward_waves_in, .func (PySem.W.fnOf "forward_waves_in" "forward_waves_in" (defArgs s_forward_waves_in) (defBody s_forward_waves_in) (defScope s_forward_waves_in) .none kV_forward_waves_in dc_forward_waves_in pm_forward_waves_in an_forward_waves_in cd_forward_waves_in ct_forward_waves_in), sl_forward_waves_in⟩)
    (c_forward_waves_in_ : PySem.W.codeIn K cd_forward_waves_in "forward_waves_in" = true)
    (k_forward_waves_in_ : PySem.W.keepIn K (.ref f_forward_waves_in) = true)
    (a_backward_waves_in : PySem.W.nsIn K mainGlobals "backward_waves_in" = some (some (.ref f_backward_waves_in)))
    (l_backward_waves_in : K.lookup f_backward_waves_in = some ⟨oc_backward_waves_in, od_backward_waves_in, .func (PySem.W.fnOf "backward_waves_in" "backward_waves_in" (defArgs s_backward_waves_in) (defBody s_backward_waves_in) (defScope s_backward_waves_in) .none kV_backward_waves_in dc_backward_waves_in pm_backward_waves_in an_backward_waves_in cd_backward_waves_in ct_backward_waves_in), sl_backward_waves_in⟩)
    (c_backward_waves_in_ : PySem.W.codeIn K cd_backward_waves_in "backward_waves_in" = true)
    (k_backward_waves_in_ : PySem.W.keepIn K (.ref f_backward_waves_in) = true)
    (a_require_at_most : PySem.W.nsIn K mainGlobals "require_at_most" = some (some (.ref f_require_at_most)))
    (l_require_at_most : K.lookup f_require_at_most = some ⟨oc_require_at_most, od_require_at_most, .func (PySem.W.fnOf "require_at_most" "require_at_most" (defArgs s_require_at_most) (defBody s_require_at_most) (defScope s_require_at_most) .none kV_require_at_most dc_require_at_most pm_require_at_most an_require_at_most cd_require_at_most ct_require_at_most), sl_require_at_most⟩)
    (c_require_at_most_ : PySem.W.codeIn K cd_require_at_most "require_at_most" = true)
    (k_require_at_most_ : PySem.W.keepIn K (.ref f_require_at_most) = true)
    (a_Simulator_init : PySem.W.findIn K (.ref c_Simulator) "__init__" = some (some (.ref f_Simulator_init)))
    (i_Simulator_init : PySem.W.isFn K (.ref f_Simulator_init) = true)
    (l_Simulator_init : K.lookup f_Simulator_init = some ⟨oc_Simulator_init, od_Simulator_init, .func (PySem.W.fnOf "__init__" "Simulator.__init__" (defArgs s_Simulator_init) (defBody s_Simulator_init) (defScope s_Simulator_init) .none kV_Simulator_init dc_Simulator_init pm_Simulator_init an_Simulator_init cd_Simulator_init ct_Simulator_init), sl_Simulator_init⟩)
    (c_Simulator_init_ : PySem.W.codeIn K cd_Simulator_init "Simulator.__init__" = true)
    (k_Simulator_init_ : PySem.W.keepIn K (.ref f_Simulator_init) = true)
    (a_Simulator_require_section : PySem.W.findIn K (.ref c_Simulator) "require_section" = some (some (.ref f_Simulator_require_section)))
    (i_Simulator_require_section : PySem.W.isFn K (.ref f_Simulator_require_section) = true)
    (l_Simulator_require_section : K.lookup f_Simulator_require_section = some ⟨oc_Simulator_require_section, od_Simulator_require_section, .func (PySem.W.fnOf "require_section" "Simulator.require_section" (defArgs s_Simulator_require_section) (defBody s_Simulator_require_section) (defScope s_Simulator_require_section) .none kV_Simulator_require_section dc_Simulator_require_section pm_Simulator_require_section an_Simulator_require_section cd_Simulator_require_section ct_Simulator_require_section), sl_Simulator_require_section⟩)
    (c_Simulator_require_section_ : PySem.W.codeIn K cd_Simulator_require_section "Simulator.require_section" = true)
    (k_Simulator_require_section_ : PySem.W.keepIn K (.ref f_Simulator_require_section) = true)
    (a_Simulator_require_seated : PySem.W.findIn K (.ref c_Simulator) "require_seated" = some (some (.ref f_Simulator_require_seated)))
    (i_Simulator_require_seated : PySem.W.isFn K (.ref f_Simulator_require_seated) = true)
    (l_Simulator_require_seated : K.lookup f_Simulator_require_seated = some ⟨oc_Simulator_require_seated, od_Simulator_require_seated, .func (PySem.W.fnOf "require_seated" "Simulator.require_seated" (defArgs s_Simulator_require_seated) (defBody s_Simulator_require_seated) (defScope s_Simulator_require_seated) .none kV_Simulator_require_seated dc_Simulator_require_seated pm_Simulator_require_seated an_Simulator_require_seated cd_Simulator_require_seated ct_Simulator_require_seated), sl_Simulator_require_seated⟩)
    (c_Simulator_require_seated_ : PySem.W.codeIn K cd_Simulator_require_seated "Simulator.require_seated" = true)
    (k_Simulator_require_seated_ : PySem.W.keepIn K (.ref f_Simulator_require_seated) = true)
    (a_Simulator_set_section : PySem.W.findIn K (.ref c_Simulator) "set_section" = some (some (.ref f_Simulator_set_section)))
    (i_Simulator_set_section : PySem.W.isFn K (.ref f_Simulator_set_section) = true)
    (l_Simulator_set_section : K.lookup f_Simulator_set_section = some ⟨oc_Simulator_set_section, od_Simulator_set_section, .func (PySem.W.fnOf "set_section" "Simulator.set_section" (defArgs s_Simulator_set_section) (defBody s_Simulator_set_section) (defScope s_Simulator_set_section) .none kV_Simulator_set_section dc_Simulator_set_section pm_Simulator_set_section an_Simulator_set_section cd_Simulator_set_section ct_Simulator_set_section), sl_Simulator_set_section⟩)
    (c_Simulator_set_section_ : PySem.W.codeIn K cd_Simulator_set_section "Simulator.set_section" = true)
    (k_Simulator_set_section_ : PySem.W.keepIn K (.ref f_Simulator_set_section) = true)
    (a_Simulator_set_all : PySem.W.findIn K (.ref c_Simulator) "set_all" = some (some (.ref f_Simulator_set_all)))
    (i_Simulator_set_all : PySem.W.isFn K (.ref f_Simulator_set_all) = true)
    (l_Simulator_set_all : K.lookup f_Simulator_set_all = some ⟨oc_Simulator_set_all, od_Simulator_set_all, .func (PySem.W.fnOf "set_all" "Simulator.set_all" (defArgs s_Simulator_set_all) (defBody s_Simulator_set_all) (defScope s_Simulator_set_all) .none kV_Simulator_set_all dc_Simulator_set_all pm_Simulator_set_all an_Simulator_set_all cd_Simulator_set_all ct_Simulator_set_all), sl_Simulator_set_all⟩)
    (c_Simulator_set_all_ : PySem.W.codeIn K cd_Simulator_set_all "Simulator.set_all" = true)
    (k_Simulator_set_all_ : PySem.W.keepIn K (.ref f_Simulator_set_all) = true)
    (a_Simulator_stand_up : PySem.W.findIn K (.ref c_Simulator) "stand_up" = some (some (.ref f_Simulator_stand_up)))
    (i_Simulator_stand_up : PySem.W.isFn K (.ref f_Simulator_stand_up) = true)
    (l_Simulator_stand_up : K.lookup f_Simulator_stand_up = some ⟨oc_Simulator_stand_up, od_Simulator_stand_up, .func (PySem.W.fnOf "stand_up" "Simulator.stand_up" (defArgs s_Simulator_stand_up) (defBody s_Simulator_stand_up) (defScope s_Simulator_stand_up) .none kV_Simulator_stand_up dc_Simulator_stand_up pm_Simulator_stand_up an_Simulator_stand_up cd_Simulator_stand_up ct_Simulator_stand_up), sl_Simulator_stand_up⟩)
    (c_Simulator_stand_up_ : PySem.W.codeIn K cd_Simulator_stand_up "Simulator.stand_up" = true)
    (k_Simulator_stand_up_ : PySem.W.keepIn K (.ref f_Simulator_stand_up) = true)
    (a_Simulator_start_wave : PySem.W.findIn K (.ref c_Simulator) "start_wave" = some (some (.ref f_Simulator_start_wave)))
    (i_Simulator_start_wave : PySem.W.isFn K (.ref f_Simulator_start_wave) = true)
    (l_Simulator_start_wave : K.lookup f_Simulator_start_wave = some ⟨oc_Simulator_start_wave, od_Simulator_start_wave, .func (PySem.W.fnOf "start_wave" "Simulator.start_wave" (defArgs s_Simulator_start_wave) (defBody s_Simulator_start_wave) (defScope s_Simulator_start_wave) .none kV_Simulator_start_wave dc_Simulator_start_wave pm_Simulator_start_wave an_Simulator_start_wave cd_Simulator_start_wave ct_Simulator_start_wave), sl_Simulator_start_wave⟩)
    (c_Simulator_start_wave_ : PySem.W.codeIn K cd_Simulator_start_wave "Simulator.start_wave" = true)
    (k_Simulator_start_wave_ : PySem.W.keepIn K (.ref f_Simulator_start_wave) = true)
    (a_Simulator_step : PySem.W.findIn K (.ref c_Simulator) "step" = some (some (.ref f_Simulator_step)))
    (i_Simulator_step : PySem.W.isFn K (.ref f_Simulator_step) = true)
    (l_Simulator_step : K.lookup f_Simulator_step = some ⟨oc_Simulator_step, od_Simulator_step, .func (PySem.W.fnOf "step" "Simulator.step" (defArgs s_Simulator_step) (defBody s_Simulator_step) (defScope s_Simulator_step) .none kV_Simulator_step dc_Simulator_step pm_Simulator_step an_Simulator_step cd_Simulator_step ct_Simulator_step), sl_Simulator_step⟩)
    (c_Simulator_step_ : PySem.W.codeIn K cd_Simulator_step "Simulator.step" = true)
    (k_Simulator_step_ : PySem.W.keepIn K (.ref f_Simulator_step) = true)
    (a_Simulator_advance : PySem.W.findIn K (.ref c_Simulator) "advance" = some (some (.ref f_Simulator_advance)))
    (i_Simulator_advance : PySem.W.isFn K (.ref f_Simulator_advance) = true)
    (l_Simulator_advance : K.lookup f_Simulator_advance = some ⟨oc_Simulator_advance, od_Simulator_advance, .func (PySem.W.fnOf "advance" "Simulator.advance" (defArgs s_Simulator_advance) (defBody s_Simulator_advance) (defScope s_Simulator_advance) .none kV_Simulator_advance dc_Simulator_advance pm_Simulator_advance an_Simulator_advance cd_Simulator_advance ct_Simulator_advance), sl_Simulator_advance⟩)
    (c_Simulator_advance_ : PySem.W.codeIn K cd_Simulator_advance "Simulator.advance" = true)
    (k_Simulator_advance_ : PySem.W.keepIn K (.ref f_Simulator_advance) = true)
    (a_Simulator_rotate : PySem.W.findIn K (.ref c_Simulator) "rotate" = some (some (.ref f_Simulator_rotate)))
    (i_Simulator_rotate : PySem.W.isFn K (.ref f_Simulator_rotate) = true)
    (l_Simulator_rotate : K.lookup f_Simulator_rotate = some ⟨oc_Simulator_rotate, od_Simulator_rotate, .func (PySem.W.fnOf "rotate" "Simulator.rotate" (defArgs s_Simulator_rotate) (defBody s_Simulator_rotate) (defScope s_Simulator_rotate) .none kV_Simulator_rotate dc_Simulator_rotate pm_Simulator_rotate an_Simulator_rotate cd_Simulator_rotate ct_Simulator_rotate), sl_Simulator_rotate⟩)
    (c_Simulator_rotate_ : PySem.W.codeIn K cd_Simulator_rotate "Simulator.rotate" = true)
    (k_Simulator_rotate_ : PySem.W.keepIn K (.ref f_Simulator_rotate) = true)
    (a_Simulator_mirror : PySem.W.findIn K (.ref c_Simulator) "mirror" = some (some (.ref f_Simulator_mirror)))
    (i_Simulator_mirror : PySem.W.isFn K (.ref f_Simulator_mirror) = true)
    (l_Simulator_mirror : K.lookup f_Simulator_mirror = some ⟨oc_Simulator_mirror, od_Simulator_mirror, .func (PySem.W.fnOf "mirror" "Simulator.mirror" (defArgs s_Simulator_mirror) (defBody s_Simulator_mirror) (defScope s_Simulator_mirror) .none kV_Simulator_mirror dc_Simulator_mirror pm_Simulator_mirror an_Simulator_mirror cd_Simulator_mirror ct_Simulator_mirror), sl_Simulator_mirror⟩)
    (c_Simulator_mirror_ : PySem.W.codeIn K cd_Simulator_mirror "Simulator.mirror" = true)
    (k_Simulator_mirror_ : PySem.W.keepIn K (.ref f_Simulator_mirror) = true)
    (a_Simulator_sit_down : PySem.W.findIn K (.ref c_Simulator) "sit_down" = some (some (.ref f_Simulator_sit_down)))
    (i_Simulator_sit_down : PySem.W.isFn K (.ref f_Simulator_sit_down) = true)
    (l_Simulator_sit_down : K.lookup f_Simulator_sit_down = some ⟨oc_Simulator_sit_down, od_Simulator_sit_down, .func (PySem.W.fnOf "sit_down" "Simulator.sit_down" (defArgs s_Simulator_sit_down) (defBody s_Simulator_sit_down) (defScope s_Simulator_sit_down) .none kV_Simulator_sit_down dc_Simulator_sit_down pm_Simulator_sit_down an_Simulator_sit_down cd_Simulator_sit_down ct_Simulator_sit_down), sl_Simulator_sit_down⟩)
    (c_Simulator_sit_down_ : PySem.W.codeIn K cd_Simulator_sit_down "Simulator.sit_down" = true)
    (k_Simulator_sit_down_ : PySem.W.keepIn K (.ref f_Simulator_sit_down) = true)
    (a_Simulator_get_ring : PySem.W.findIn K (.ref c_Simulator) "get_ring" = some (some (.ref f_Simulator_get_ring)))
    (i_Simulator_get_ring : PySem.W.isFn K (.ref f_Simulator_get_ring) = true)
    (l_Simulator_get_ring : K.lookup f_Simulator_get_ring = some ⟨oc_Simulator_get_ring, od_Simulator_get_ring, .func (PySem.W.fnOf "get_ring" "Simulator.get_ring" (defArgs s_Simulator_get_ring) (defBody s_Simulator_get_ring) (defScope s_Simulator_get_ring) .none kV_Simulator_get_ring dc_Simulator_get_ring pm_Simulator_get_ring an_Simulator_get_ring cd_Simulator_get_ring ct_Simulator_get_ring), sl_Simulator_get_ring⟩)
    (c_Simulator_get_ring_ : PySem.W.codeIn K cd_Simulator_get_ring "Simulator.get_ring" = true)
    (k_Simulator_get_ring_ : PySem.W.keepIn K (.ref f_Simulator_get_ring) = true)
    (a_Simulator_get_section : PySem.W.findIn K (.ref c_Simulator) "get_section" = some (some (.ref f_Simulator_get_section)))
    (i_Simulator_get_section : PySem.W.isFn K (.ref f_Simulator_get_section) = true)
    (l_Simulator_get_section : K.lookup f_Simulator_get_section = some ⟨oc_Simulator_get_section, od_Simulator_get_section, .func (PySem.W.fnOf "get_section" "Simulator.get_section" (defArgs s_Simulator_get_section) (defBody s_Simulator_get_section) (defScope s_Simulator_get_section) .none kV_Simulator_get_section dc_Simulator_get_section pm_Simulator_get_section an_Simulator_get_section cd_Simulator_get_section ct_Simulator_get_section), sl_Simulator_get_section⟩)
    (c_Simulator_get_section_ : PySem.W.codeIn K cd_Simulator_get_section "Simulator.get_section" = true)
    (k_Simulator_get_section_ : PySem.W.keepIn K (.ref f_Simulator_get_section) = true)
    (a_Simulator_ring_after : PySem.W.findIn K (.ref c_Simulator) "ring_after" = some (some (.ref f_Simulator_ring_after)))
    (i_Simulator_ring_after : PySem.W.isFn K (.ref f_Simulator_ring_after) = true)
    (l_Simulator_ring_after : K.lookup f_Simulator_ring_after = some ⟨oc_Simulator_ring_after, od_Simulator_ring_after, .func (PySem.W.fnOf "ring_after" "Simulator.ring_after" (defArgs s_Simulator_ring_after) (defBody s_Simulator_ring_after) (defScope s_Simulator_ring_after) .none kV_Simulator_ring_after dc_Simulator_ring_after pm_Simulator_ring_after an_Simulator_ring_after cd_Simulator_ring_after ct_Simulator_ring_after), sl_Simulator_ring_after⟩)
    (c_Simulator_ring_after_ : PySem.W.codeIn K cd_Simulator_ring_after "Simulator.ring_after" = true)
    (k_Simulator_ring_after_ : PySem.W.keepIn K (.ref f_Simulator_ring_after) = true)
    (a_Simulator_winding_number : PySem.W.findIn K (.ref c_Simulator) "winding_number" = some (some (.ref f_Simulator_winding_number)))
    (i_Simulator_winding_number : PySem.W.isFn K (.ref f_Simulator_winding_number) = true)
    (l_Simulator_winding_number : K.lookup f_Simulator_winding_number = some ⟨oc_Simulator_winding_number, od_Simulator_winding_number, .func (PySem.W.fnOf "winding_number" "Simulator.winding_number" (defArgs s_Simulator_winding_number) (defBody s_Simulator_winding_number) (defScope s_Simulator_winding_number) .none kV_Simulator_winding_number dc_Simulator_winding_number pm_Simulator_winding_number an_Simulator_winding_number cd_Simulator_winding_number ct_Simulator_winding_number), sl_Simulator_winding_number⟩)
    (c_Simulator_winding_number_ : PySem.W.codeIn K cd_Simulator_winding_number "Simulator.winding_number" = true)
    (k_Simulator_winding_number_ : PySem.W.keepIn K (.ref f_Simulator_winding_number) = true)
    (a_Simulator_steps_until_quiet : PySem.W.findIn K (.ref c_Simulator) "steps_until_quiet" = some (some (.ref f_Simulator_steps_until_quiet)))
    (i_Simulator_steps_until_quiet : PySem.W.isFn K (.ref f_Simulator_steps_until_quiet) = true)
    (l_Simulator_steps_until_quiet : K.lookup f_Simulator_steps_until_quiet = some ⟨oc_Simulator_steps_until_quiet, od_Simulator_steps_until_quiet, .func (PySem.W.fnOf "steps_until_quiet" "Simulator.steps_until_quiet" (defArgs s_Simulator_steps_until_quiet) (defBody s_Simulator_steps_until_quiet) (defScope s_Simulator_steps_until_quiet) .none kV_Simulator_steps_until_quiet dc_Simulator_steps_until_quiet pm_Simulator_steps_until_quiet an_Simulator_steps_until_quiet cd_Simulator_steps_until_quiet ct_Simulator_steps_until_quiet), sl_Simulator_steps_until_quiet⟩)
    (c_Simulator_steps_until_quiet_ : PySem.W.codeIn K cd_Simulator_steps_until_quiet "Simulator.steps_until_quiet" = true)
    (k_Simulator_steps_until_quiet_ : PySem.W.keepIn K (.ref f_Simulator_steps_until_quiet) = true)
    (a_Simulator_cycle : PySem.W.findIn K (.ref c_Simulator) "cycle" = some (some (.ref f_Simulator_cycle)))
    (i_Simulator_cycle : PySem.W.isFn K (.ref f_Simulator_cycle) = true)
    (l_Simulator_cycle : K.lookup f_Simulator_cycle = some ⟨oc_Simulator_cycle, od_Simulator_cycle, .func (PySem.W.fnOf "cycle" "Simulator.cycle" (defArgs s_Simulator_cycle) (defBody s_Simulator_cycle) (defScope s_Simulator_cycle) .none kV_Simulator_cycle dc_Simulator_cycle pm_Simulator_cycle an_Simulator_cycle cd_Simulator_cycle ct_Simulator_cycle), sl_Simulator_cycle⟩)
    (c_Simulator_cycle_ : PySem.W.codeIn K cd_Simulator_cycle "Simulator.cycle" = true)
    (k_Simulator_cycle_ : PySem.W.keepIn K (.ref f_Simulator_cycle) = true)
    (a_Simulator_forward_waves : PySem.W.findIn K (.ref c_Simulator) "forward_waves" = some (some (.ref f_Simulator_forward_waves)))
    (i_Simulator_forward_waves : PySem.W.isFn K (.ref f_Simulator_forward_waves) = true)
    (l_Simulator_forward_waves : K.lookup f_Simulator_forward_waves = some ⟨oc_Simulator_forward_waves, od_Simulator_forward_waves, .func (PySem.W.fnOf "forward_waves" "Simulator.forward_waves" (defArgs s_Simulator_forward_waves) (defBody s_Simulator_forward_waves) (defScope s_Simulator_forward_waves) .none kV_Simulator_forward_waves dc_Simulator_forward_waves pm_Simulator_forward_waves an_Simulator_forward_waves cd_Simulator_forward_waves ct_Simulator_forward_waves), sl_Simulator_forward_waves⟩)
    (c_Simulator_forward_waves_ : PySem.W.codeIn K cd_Simulator_forward_waves "Simulator.forward_waves" = true)
    (k_Simulator_forward_waves_ : PySem.W.keepIn K (.ref f_Simulator_forward_waves) = true)
    (a_Simulator_backward_waves : PySem.W.findIn K (.ref c_Simulator) "backward_waves" = some (some (.ref f_Simulator_backward_waves)))
    (i_Simulator_backward_waves : PySem.W.isFn K (.ref f_Simulator_backward_waves) = true)
    (l_Simulator_backward_waves : K.lookup f_Simulator_backward_waves = some ⟨oc_Simulator_backward_waves, od_Simulator_backward_waves, .func (PySem.W.fnOf "backward_waves" "Simulator.backward_waves" (defArgs s_Simulator_backward_waves) (defBody s_Simulator_backward_waves) (defScope s_Simulator_backward_waves) .none kV_Simulator_backward_waves dc_Simulator_backward_waves pm_Simulator_backward_waves an_Simulator_backward_waves cd_Simulator_backward_waves ct_Simulator_backward_waves), sl_Simulator_backward_waves⟩)
    (c_Simulator_backward_waves_ : PySem.W.codeIn K cd_Simulator_backward_waves "Simulator.backward_waves" = true)
    (k_Simulator_backward_waves_ : PySem.W.keepIn K (.ref f_Simulator_backward_waves) = true)
    (a_Simulator_standing_count : PySem.W.findIn K (.ref c_Simulator) "standing_count" = some (some (.ref f_Simulator_standing_count)))
    (i_Simulator_standing_count : PySem.W.isFn K (.ref f_Simulator_standing_count) = true)
    (l_Simulator_standing_count : K.lookup f_Simulator_standing_count = some ⟨oc_Simulator_standing_count, od_Simulator_standing_count, .func (PySem.W.fnOf "standing_count" "Simulator.standing_count" (defArgs s_Simulator_standing_count) (defBody s_Simulator_standing_count) (defScope s_Simulator_standing_count) .none kV_Simulator_standing_count dc_Simulator_standing_count pm_Simulator_standing_count an_Simulator_standing_count cd_Simulator_standing_count ct_Simulator_standing_count), sl_Simulator_standing_count⟩)
    (c_Simulator_standing_count_ : PySem.W.codeIn K cd_Simulator_standing_count "Simulator.standing_count" = true)
    (k_Simulator_standing_count_ : PySem.W.keepIn K (.ref f_Simulator_standing_count) = true)
    (a_Simulator_max_standing : PySem.W.findIn K (.ref c_Simulator) "max_standing" = some (some (.ref f_Simulator_max_standing)))
    (i_Simulator_max_standing : PySem.W.isFn K (.ref f_Simulator_max_standing) = true)
    (l_Simulator_max_standing : K.lookup f_Simulator_max_standing = some ⟨oc_Simulator_max_standing, od_Simulator_max_standing, .func (PySem.W.fnOf "max_standing" "Simulator.max_standing" (defArgs s_Simulator_max_standing) (defBody s_Simulator_max_standing) (defScope s_Simulator_max_standing) .none kV_Simulator_max_standing dc_Simulator_max_standing pm_Simulator_max_standing an_Simulator_max_standing cd_Simulator_max_standing ct_Simulator_max_standing), sl_Simulator_max_standing⟩)
    (c_Simulator_max_standing_ : PySem.W.codeIn K cd_Simulator_max_standing "Simulator.max_standing" = true)
    (k_Simulator_max_standing_ : PySem.W.keepIn K (.ref f_Simulator_max_standing) = true)
    (a_Simulator_first_standing : PySem.W.findIn K (.ref c_Simulator) "first_standing" = some (some (.ref f_Simulator_first_standing)))
    (i_Simulator_first_standing : PySem.W.isFn K (.ref f_Simulator_first_standing) = true)
    (l_Simulator_first_standing : K.lookup f_Simulator_first_standing = some ⟨oc_Simulator_first_standing, od_Simulator_first_standing, .func (PySem.W.fnOf "first_standing" "Simulator.first_standing" (defArgs s_Simulator_first_standing) (defBody s_Simulator_first_standing) (defScope s_Simulator_first_standing) .none kV_Simulator_first_standing dc_Simulator_first_standing pm_Simulator_first_standing an_Simulator_first_standing cd_Simulator_first_standing ct_Simulator_first_standing), sl_Simulator_first_standing⟩)
    (c_Simulator_first_standing_ : PySem.W.codeIn K cd_Simulator_first_standing "Simulator.first_standing" = true)
    (k_Simulator_first_standing_ : PySem.W.keepIn K (.ref f_Simulator_first_standing) = true)
    (a_Simulator_quiet_if_stand_up : PySem.W.findIn K (.ref c_Simulator) "quiet_if_stand_up" = some (some (.ref f_Simulator_quiet_if_stand_up)))
    (i_Simulator_quiet_if_stand_up : PySem.W.isFn K (.ref f_Simulator_quiet_if_stand_up) = true)
    (l_Simulator_quiet_if_stand_up : K.lookup f_Simulator_quiet_if_stand_up = some ⟨oc_Simulator_quiet_if_stand_up, od_Simulator_quiet_if_stand_up, .func (PySem.W.fnOf "quiet_if_stand_up" "Simulator.quiet_if_stand_up" (defArgs s_Simulator_quiet_if_stand_up) (defBody s_Simulator_quiet_if_stand_up) (defScope s_Simulator_quiet_if_stand_up) .none kV_Simulator_quiet_if_stand_up dc_Simulator_quiet_if_stand_up pm_Simulator_quiet_if_stand_up an_Simulator_quiet_if_stand_up cd_Simulator_quiet_if_stand_up ct_Simulator_quiet_if_stand_up), sl_Simulator_quiet_if_stand_up⟩)
    (c_Simulator_quiet_if_stand_up_ : PySem.W.codeIn K cd_Simulator_quiet_if_stand_up "Simulator.quiet_if_stand_up" = true)
    (k_Simulator_quiet_if_stand_up_ : PySem.W.keepIn K (.ref f_Simulator_quiet_if_stand_up) = true)
    (a_Simulator_get_state : PySem.W.findIn K (.ref c_Simulator) "get_state" = some (some (.ref f_Simulator_get_state)))
    (i_Simulator_get_state : PySem.W.isFn K (.ref f_Simulator_get_state) = true)
    (l_Simulator_get_state : K.lookup f_Simulator_get_state = some ⟨oc_Simulator_get_state, od_Simulator_get_state, .func (PySem.W.fnOf "get_state" "Simulator.get_state" (defArgs s_Simulator_get_state) (defBody s_Simulator_get_state) (defScope s_Simulator_get_state) .none kV_Simulator_get_state dc_Simulator_get_state pm_Simulator_get_state an_Simulator_get_state cd_Simulator_get_state ct_Simulator_get_state), sl_Simulator_get_state⟩)
    (c_Simulator_get_state_ : PySem.W.codeIn K cd_Simulator_get_state "Simulator.get_state" = true)
    (k_Simulator_get_state_ : PySem.W.keepIn K (.ref f_Simulator_get_state) = true)
    (a_answer_change : PySem.W.nsIn K mainGlobals "answer_change" = some (some (.ref f_answer_change)))
    (l_answer_change : K.lookup f_answer_change = some ⟨oc_answer_change, od_answer_change, .func (PySem.W.fnOf "answer_change" "answer_change" (defArgs s_answer_change) (defBody s_answer_change) (defScope s_answer_change) .none kV_answer_change dc_answer_change pm_answer_change an_answer_change cd_answer_change ct_answer_change), sl_answer_change⟩)
    (c_answer_change_ : PySem.W.codeIn K cd_answer_change "answer_change" = true)
    (k_answer_change_ : PySem.W.keepIn K (.ref f_answer_change) = true)
    (a_answer_query : PySem.W.nsIn K mainGlobals "answer_query" = some (some (.ref f_answer_query)))
    (l_answer_query : K.lookup f_answer_query = some ⟨oc_answer_query, od_answer_query, .func (PySem.W.fnOf "answer_query" "answer_query" (defArgs s_answer_query) (defBody s_answer_query) (defScope s_answer_query) .none kV_answer_query dc_answer_query pm_answer_query an_answer_query cd_answer_query ct_answer_query), sl_answer_query⟩)
    (c_answer_query_ : PySem.W.codeIn K cd_answer_query "answer_query" = true)
    (k_answer_query_ : PySem.W.keepIn K (.ref f_answer_query) = true)
    (a_Session_init : PySem.W.findIn K (.ref c_Session) "__init__" = some (some (.ref f_Session_init)))
    (i_Session_init : PySem.W.isFn K (.ref f_Session_init) = true)
    (l_Session_init : K.lookup f_Session_init = some ⟨oc_Session_init, od_Session_init, .func (PySem.W.fnOf "__init__" "Session.__init__" (defArgs s_Session_init) (defBody s_Session_init) (defScope s_Session_init) .none kV_Session_init dc_Session_init pm_Session_init an_Session_init cd_Session_init ct_Session_init), sl_Session_init⟩)
    (c_Session_init_ : PySem.W.codeIn K cd_Session_init "Session.__init__" = true)
    (k_Session_init_ : PySem.W.keepIn K (.ref f_Session_init) = true)
    (a_Session_answer : PySem.W.findIn K (.ref c_Session) "answer" = some (some (.ref f_Session_answer)))
    (i_Session_answer : PySem.W.isFn K (.ref f_Session_answer) = true)
    (l_Session_answer : K.lookup f_Session_answer = some ⟨oc_Session_answer, od_Session_answer, .func (PySem.W.fnOf "answer" "Session.answer" (defArgs s_Session_answer) (defBody s_Session_answer) (defScope s_Session_answer) .none kV_Session_answer dc_Session_answer pm_Session_answer an_Session_answer cd_Session_answer ct_Session_answer), sl_Session_answer⟩)
    (c_Session_answer_ : PySem.W.codeIn K cd_Session_answer "Session.answer" = true)
    (k_Session_answer_ : PySem.W.keepIn K (.ref f_Session_answer) = true)
    (a_Session_execute : PySem.W.findIn K (.ref c_Session) "execute" = some (some (.ref f_Session_execute)))
    (i_Session_execute : PySem.W.isFn K (.ref f_Session_execute) = true)
    (l_Session_execute : K.lookup f_Session_execute = some ⟨oc_Session_execute, od_Session_execute, .func (PySem.W.fnOf "execute" "Session.execute" (defArgs s_Session_execute) (defBody s_Session_execute) (defScope s_Session_execute) .none kV_Session_execute dc_Session_execute pm_Session_execute an_Session_execute cd_Session_execute ct_Session_execute), sl_Session_execute⟩)
    (c_Session_execute_ : PySem.W.codeIn K cd_Session_execute "Session.execute" = true)
    (k_Session_execute_ : PySem.W.keepIn K (.ref f_Session_execute) = true)
    (a_Session_create : PySem.W.findIn K (.ref c_Session) "create" = some (some (.ref f_Session_create)))
    (i_Session_create : PySem.W.isFn K (.ref f_Session_create) = true)
    (l_Session_create : K.lookup f_Session_create = some ⟨oc_Session_create, od_Session_create, .func (PySem.W.fnOf "create" "Session.create" (defArgs s_Session_create) (defBody s_Session_create) (defScope s_Session_create) .none kV_Session_create dc_Session_create pm_Session_create an_Session_create cd_Session_create ct_Session_create), sl_Session_create⟩)
    (c_Session_create_ : PySem.W.codeIn K cd_Session_create "Session.create" = true)
    (k_Session_create_ : PySem.W.keepIn K (.ref f_Session_create) = true)
    (a_answers : PySem.W.nsIn K mainGlobals "answers" = some (some (.ref f_answers)))
    (l_answers : K.lookup f_answers = some ⟨oc_answers, od_answers, .func (PySem.W.fnOf "answers" "answers" (defArgs s_answers) (defBody s_answers) (defScope s_answers) .none kV_answers dc_answers pm_answers an_answers cd_answers ct_answers), sl_answers⟩)
    (c_answers_ : PySem.W.codeIn K cd_answers "answers" = true)
    (k_answers_ : PySem.W.keepIn K (.ref f_answers) = true)
    (x_Refusal : K.lookup c_Refusal = some (excClassObj nm_Refusal qq_Refusal c_Refusal N_Refusal bs_Refusal [.type "Exception", .type "BaseException", .type "object"] true sn_Refusal sub_Refusal ab_Refusal col_Refusal dd_Refusal m0_Refusal m1_Refusal m2_Refusal m3_Refusal m5_Refusal "Exception.__new__"))
    (nc_Refusal : PySem.W.findIn K (.ref c_Refusal) "code" = some none)
    (sa_Refusal : PySem.W.findIn K (.ref c_Refusal) "__setattr__" = some (some (.builtin "object.__setattr__")))
    (ga_Refusal : PySem.W.findIn K (.ref c_Refusal) "__getattribute__" = some (some (.builtin "BaseException.__getattribute__")))
    (gg_Refusal : PySem.W.findIn K (.ref c_Refusal) "__getattr__" = some none)
    (ex_Refusal : PySem.W.subIn K (.ref c_Refusal) (.type "BaseException") = some true)
    (ty_Refusal : PySem.W.typeIn K (.ref c_Refusal) = some (.type "type"))
    (kc_Refusal : PySem.W.keepIn K (.ref c_Refusal) = true)
    (hd_Refusal : PySem.W.hasDictIn K c_Refusal = true)
    (is_Refusal : PySem.W.isClsIn K c_Refusal = true)
    (sr_Refusal : PySem.W.subIn K (.ref c_Refusal) (.ref c_Refusal) = some true)
    (x_NoSimulator : K.lookup c_NoSimulator = some (excClassObj nm_NoSimulator qq_NoSimulator c_NoSimulator N_NoSimulator bs_NoSimulator [.ref c_Refusal, .type "Exception", .type "BaseException", .type "object"] true sn_NoSimulator sub_NoSimulator ab_NoSimulator col_NoSimulator dd_NoSimulator m0_NoSimulator m1_NoSimulator m2_NoSimulator m3_NoSimulator m5_NoSimulator "Exception.__new__"))
    (nc_NoSimulator : PySem.W.findIn K (.ref c_NoSimulator) "code" = some none)
    (sa_NoSimulator : PySem.W.findIn K (.ref c_NoSimulator) "__setattr__" = some (some (.builtin "object.__setattr__")))
    (ga_NoSimulator : PySem.W.findIn K (.ref c_NoSimulator) "__getattribute__" = some (some (.builtin "BaseException.__getattribute__")))
    (gg_NoSimulator : PySem.W.findIn K (.ref c_NoSimulator) "__getattr__" = some none)
    (ex_NoSimulator : PySem.W.subIn K (.ref c_NoSimulator) (.type "BaseException") = some true)
    (ty_NoSimulator : PySem.W.typeIn K (.ref c_NoSimulator) = some (.type "type"))
    (kc_NoSimulator : PySem.W.keepIn K (.ref c_NoSimulator) = true)
    (hd_NoSimulator : PySem.W.hasDictIn K c_NoSimulator = true)
    (is_NoSimulator : PySem.W.isClsIn K c_NoSimulator = true)
    (sr_NoSimulator : PySem.W.subIn K (.ref c_NoSimulator) (.ref c_Refusal) = some true)
    (x_NoSection : K.lookup c_NoSection = some (excClassObj nm_NoSection qq_NoSection c_NoSection N_NoSection bs_NoSection [.ref c_Refusal, .type "Exception", .type "BaseException", .type "object"] true sn_NoSection sub_NoSection ab_NoSection col_NoSection dd_NoSection m0_NoSection m1_NoSection m2_NoSection m3_NoSection m5_NoSection "Exception.__new__"))
    (nc_NoSection : PySem.W.findIn K (.ref c_NoSection) "code" = some none)
    (sa_NoSection : PySem.W.findIn K (.ref c_NoSection) "__setattr__" = some (some (.builtin "object.__setattr__")))
    (ga_NoSection : PySem.W.findIn K (.ref c_NoSection) "__getattribute__" = some (some (.builtin "BaseException.__getattribute__")))
    (gg_NoSection : PySem.W.findIn K (.ref c_NoSection) "__getattr__" = some none)
    (ex_NoSection : PySem.W.subIn K (.ref c_NoSection) (.type "BaseException") = some true)
    (ty_NoSection : PySem.W.typeIn K (.ref c_NoSection) = some (.type "type"))
    (kc_NoSection : PySem.W.keepIn K (.ref c_NoSection) = true)
    (hd_NoSection : PySem.W.hasDictIn K c_NoSection = true)
    (is_NoSection : PySem.W.isClsIn K c_NoSection = true)
    (sr_NoSection : PySem.W.subIn K (.ref c_NoSection) (.ref c_Refusal) = some true)
    (x_NotSeated : K.lookup c_NotSeated = some (excClassObj nm_NotSeated qq_NotSeated c_NotSeated N_NotSeated bs_NotSeated [.ref c_Refusal, .type "Exception", .type "BaseException", .type "object"] true sn_NotSeated sub_NotSeated ab_NotSeated col_NotSeated dd_NotSeated m0_NotSeated m1_NotSeated m2_NotSeated m3_NotSeated m5_NotSeated "Exception.__new__"))
    (nc_NotSeated : PySem.W.findIn K (.ref c_NotSeated) "code" = some none)
    (sa_NotSeated : PySem.W.findIn K (.ref c_NotSeated) "__setattr__" = some (some (.builtin "object.__setattr__")))
    (ga_NotSeated : PySem.W.findIn K (.ref c_NotSeated) "__getattribute__" = some (some (.builtin "BaseException.__getattribute__")))
    (gg_NotSeated : PySem.W.findIn K (.ref c_NotSeated) "__getattr__" = some none)
    (ex_NotSeated : PySem.W.subIn K (.ref c_NotSeated) (.type "BaseException") = some true)
    (ty_NotSeated : PySem.W.typeIn K (.ref c_NotSeated) = some (.type "type"))
    (kc_NotSeated : PySem.W.keepIn K (.ref c_NotSeated) = true)
    (hd_NotSeated : PySem.W.hasDictIn K c_NotSeated = true)
    (is_NotSeated : PySem.W.isClsIn K c_NotSeated = true)
    (sr_NotSeated : PySem.W.subIn K (.ref c_NotSeated) (.ref c_Refusal) = some true)
    (x_OutOfRange : K.lookup c_OutOfRange = some (excClassObj nm_OutOfRange qq_OutOfRange c_OutOfRange N_OutOfRange bs_OutOfRange [.ref c_Refusal, .type "Exception", .type "BaseException", .type "object"] true sn_OutOfRange sub_OutOfRange ab_OutOfRange col_OutOfRange dd_OutOfRange m0_OutOfRange m1_OutOfRange m2_OutOfRange m3_OutOfRange m5_OutOfRange "Exception.__new__"))
    (nc_OutOfRange : PySem.W.findIn K (.ref c_OutOfRange) "code" = some none)
    (sa_OutOfRange : PySem.W.findIn K (.ref c_OutOfRange) "__setattr__" = some (some (.builtin "object.__setattr__")))
    (ga_OutOfRange : PySem.W.findIn K (.ref c_OutOfRange) "__getattribute__" = some (some (.builtin "BaseException.__getattribute__")))
    (gg_OutOfRange : PySem.W.findIn K (.ref c_OutOfRange) "__getattr__" = some none)
    (ex_OutOfRange : PySem.W.subIn K (.ref c_OutOfRange) (.type "BaseException") = some true)
    (ty_OutOfRange : PySem.W.typeIn K (.ref c_OutOfRange) = some (.type "type"))
    (kc_OutOfRange : PySem.W.keepIn K (.ref c_OutOfRange) = true)
    (hd_OutOfRange : PySem.W.hasDictIn K c_OutOfRange = true)
    (is_OutOfRange : PySem.W.isClsIn K c_OutOfRange = true)
    (sr_OutOfRange : PySem.W.subIn K (.ref c_OutOfRange) (.ref c_Refusal) = some true)
    (x_NeverHappens : K.lookup c_NeverHappens = some (excClassObj nm_NeverHappens qq_NeverHappens c_NeverHappens N_NeverHappens bs_NeverHappens [.ref c_Refusal, .type "Exception", .type "BaseException", .type "object"] true sn_NeverHappens sub_NeverHappens ab_NeverHappens col_NeverHappens dd_NeverHappens m0_NeverHappens m1_NeverHappens m2_NeverHappens m3_NeverHappens m5_NeverHappens "Exception.__new__"))
    (nc_NeverHappens : PySem.W.findIn K (.ref c_NeverHappens) "code" = some none)
    (sa_NeverHappens : PySem.W.findIn K (.ref c_NeverHappens) "__setattr__" = some (some (.builtin "object.__setattr__")))
    (ga_NeverHappens : PySem.W.findIn K (.ref c_NeverHappens) "__getattribute__" = some (some (.builtin "BaseException.__getattribute__")))
    (gg_NeverHappens : PySem.W.findIn K (.ref c_NeverHappens) "__getattr__" = some none)
    (ex_NeverHappens : PySem.W.subIn K (.ref c_NeverHappens) (.type "BaseException") = some true)
    (ty_NeverHappens : PySem.W.typeIn K (.ref c_NeverHappens) = some (.type "type"))
    (kc_NeverHappens : PySem.W.keepIn K (.ref c_NeverHappens) = true)
    (hd_NeverHappens : PySem.W.hasDictIn K c_NeverHappens = true)
    (is_NeverHappens : PySem.W.isClsIn K c_NeverHappens = true)
    (sr_NeverHappens : PySem.W.subIn K (.ref c_NeverHappens) (.ref c_Refusal) = some true)
    (pg_Simulator : PySem.W.plainGet K c_Simulator Str.empty = true)
    (hd_Simulator : PySem.W.hasDictIn K c_Simulator = true)
    (po_Simulator : PySem.W.plainOver K c_Simulator = true)
    (sa_Simulator : PySem.W.findIn K (.ref c_Simulator) "__setattr__" = some (some (.builtin "object.__setattr__")))
    (mk_Simulator : PySem.W.makesIn K c_Simulator = true)
    (kc_Simulator : PySem.W.keepIn K (.ref c_Simulator) = true)
    (na_Simulator_states : PySem.W.findIn K (.ref c_Simulator) "states" = some none)
    (na_Simulator_time : PySem.W.findIn K (.ref c_Simulator) "time" = some none)
    (pg_Session : PySem.W.plainGet K c_Session Str.empty = true)
    (hd_Session : PySem.W.hasDictIn K c_Session = true)
    (po_Session : PySem.W.plainOver K c_Session = true)
    (sa_Session : PySem.W.findIn K (.ref c_Session) "__setattr__" = some (some (.builtin "object.__setattr__")))
    (mk_Session : PySem.W.makesIn K c_Session = true)
    (kc_Session : PySem.W.keepIn K (.ref c_Session) = true)
    (na_Session_simulator : PySem.W.findIn K (.ref c_Session) "simulator" = some none)
    (rd : PySem.W.readsIn K c_Refusal (.type "type") = true)
    (rg : PySem.W.specialIn K (.ref c_Refusal) "__getattribute__" = some (some (.builtin "type.__getattribute__")))
    (ro : PySem.W.findCls K (.ref c_Refusal) (.type "type") "__init__" = some (.val (.ref f_Refusal_init)))
    : ∃ fd : FuncData, (∀ (s : Shared) (us : List Value), us.length = (["calls"] : List Str).length → BindsTo s fd ⟨us, []⟩ ((["calls"] : List Str).zip us)) ∧ ∀ base : Heap, K.In base → base.Ns mainGlobals mg → FnOk P w K mg base CX0 20 fa fd ["calls"] (spAns K) := by
  have e := hfa.symm.trans (PySem.W.mg_of X G a_answers)
  cases e
  have F_split_calls := fun_mk (st := s_split_calls) l_split_calls c_split_calls_ k_split_calls_
  have b_split_calls := F_split_calls.binds (ps := ["calls"]) fun _ _ _ _ _ _ us hl => match us, hl with | [_], _ => rfl
  have F_Refusal_init := fun_mk (st := s_Refusal_init) l_Refusal_init c_Refusal_init_ k_Refusal_init_
  have b_Refusal_init := F_Refusal_init.binds (ps := ["self", "code"]) fun _ _ _ _ _ _ us hl => match us, hl with | [_, _], _ => rfl
  have F_NoSimulator_init := fun_mk (st := s_NoSimulator_init) l_NoSimulator_init c_NoSimulator_init_ k_NoSimulator_init_
  have b_NoSimulator_init := F_NoSimulator_init.binds (ps := ["self"]) fun _ _ _ _ _ _ us hl => match us, hl with | [_], _ => rfl
  have F_NoSection_init := fun_mk (st := s_NoSection_init) l_NoSection_init c_NoSection_init_ k_NoSection_init_
  have b_NoSection_init := F_NoSection_init.binds (ps := ["self"]) fun _ _ _ _ _ _ us hl => match us, hl with | [_], _ => rfl
  have F_NotSeated_init := fun_mk (st := s_NotSeated_init) l_NotSeated_init c_NotSeated_init_ k_NotSeated_init_
  have b_NotSeated_init := F_NotSeated_init.binds (ps := ["self"]) fun _ _ _ _ _ _ us hl => match us, hl with | [_], _ => rfl
  have F_OutOfRange_init := fun_mk (st := s_OutOfRange_init) l_OutOfRange_init c_OutOfRange_init_ k_OutOfRange_init_
  have b_OutOfRange_init := F_OutOfRange_init.binds (ps := ["self"]) fun _ _ _ _ _ _ us hl => match us, hl with | [_], _ => rfl
  have F_NeverHappens_init := fun_mk (st := s_NeverHappens_init) l_NeverHappens_init c_NeverHappens_init_ k_NeverHappens_init_
  have b_NeverHappens_init := F_NeverHappens_init.binds (ps := ["self"]) fun _ _ _ _ _ _ us hl => match us, hl with | [_], _ => rfl
  have F_next_section := fun_mk (st := s_next_section) l_next_section c_next_section_ k_next_section_
  have b_next_section := F_next_section.binds (ps := ["states", "i"]) fun _ _ _ _ _ _ us hl => match us, hl with | [_, _], _ => rfl
  have F_previous_section := fun_mk (st := s_previous_section) l_previous_section c_previous_section_ k_previous_section_
  have b_previous_section := F_previous_section.binds (ps := ["states", "i"]) fun _ _ _ _ _ _ us hl => match us, hl with | [_, _], _ => rfl
  have F_standing_in := fun_mk (st := s_standing_in) l_standing_in c_standing_in_ k_standing_in_
  have b_standing_in := F_standing_in.binds (ps := ["states"]) fun _ _ _ _ _ _ us hl => match us, hl with | [_], _ => rfl
  have F_section_after_step := fun_mk (st := s_section_after_step) l_section_after_step c_section_after_step_ k_section_after_step_
  have b_section_after_step := F_section_after_step.binds (ps := ["states", "i"]) fun _ _ _ _ _ _ us hl => match us, hl with | [_, _], _ => rfl
  have F_after_step := fun_mk (st := s_after_step) l_after_step c_after_step_ k_after_step_
  have b_after_step := F_after_step.binds (ps := ["states"]) fun _ _ _ _ _ _ us hl => match us, hl with | [_], _ => rfl
  have F_after_steps := fun_mk (st := s_after_steps) l_after_steps c_after_steps_ k_after_steps_
  have b_after_steps := F_after_steps.binds (ps := ["states", "steps"]) fun _ _ _ _ _ _ us hl => match us, hl with | [_, _], _ => rfl
  have F_rotated := fun_mk (st := s_rotated) l_rotated c_rotated_ k_rotated_
  have b_rotated := F_rotated.binds (ps := ["states", "distance"]) fun _ _ _ _ _ _ us hl => match us, hl with | [_, _], _ => rfl
  have F_mirrored := fun_mk (st := s_mirrored) l_mirrored c_mirrored_ k_mirrored_
  have b_mirrored := F_mirrored.binds (ps := ["states"]) fun _ _ _ _ _ _ us hl => match us, hl with | [_], _ => rfl
  have F_rings_until_repeat := fun_mk (st := s_rings_until_repeat) l_rings_until_repeat c_rings_until_repeat_ k_rings_until_repeat_
  have b_rings_until_repeat := F_rings_until_repeat.binds (ps := ["states"]) fun _ _ _ _ _ _ us hl => match us, hl with | [_], _ => rfl
  have F_steps_to_quiet := fun_mk (st := s_steps_to_quiet) l_steps_to_quiet c_steps_to_quiet_ k_steps_to_quiet_
  have b_steps_to_quiet := F_steps_to_quiet.binds (ps := ["states"]) fun _ _ _ _ _ _ us hl => match us, hl with | [_], _ => rfl
  have F_steps_to_standing := fun_mk (st := s_steps_to_standing) l_steps_to_standing c_steps_to_standing_ k_steps_to_standing_
  have b_steps_to_standing := F_steps_to_standing.binds (ps := ["states", "i"]) fun _ _ _ _ _ _ us hl => match us, hl with | [_, _], _ => rfl
  have F_cycle_of := fun_mk (st := s_cycle_of) l_cycle_of c_cycle_of_ k_cycle_of_
  have b_cycle_of := F_cycle_of.binds (ps := ["states"]) fun _ _ _ _ _ _ us hl => match us, hl with | [_], _ => rfl
  have F_most_standing := fun_mk (st := s_most_standing) l_most_standing c_most_standing_ k_most_standing_
  have b_most_standing := F_most_standing.binds (ps := ["states"]) fun _ _ _ _ _ _ us hl => match us, hl with | [_], _ => rfl
  have F_phase_difference := fun_mk (st := s_phase_difference) l_phase_difference c_phase_difference_ k_phase_difference_
  have b_phase_difference := F_phase_difference.binds (ps := ["before", "after"]) fun _ _ _ _ _ _ us hl => match us, hl with | [_, _], _ => rfl
  have F_winding_of := fun_mk (st := s_winding_of) l_winding_of c_winding_of_ k_winding_of_
  have b_winding_of := F_winding_of.binds (ps := ["states"]) fun _ _ _ _ _ _ us hl => match us, hl with | [_], _ => rfl
  have F_is_wave := fun_mk (st := s_is_wave) l_is_wave c_is_wave_ k_is_wave_
  have b_is_wave := F_is_wave.binds (ps := ["states", "i", "behind", "ahead"]) fun _ _ _ _ _ _ us hl => match us, hl with | [_, _, _, _], _ => rfl
  have F_is_forward_wave := fun_mk (st := s_is_forward_wave) l_is_forward_wave c_is_forward_wave_ k_is_forward_wave_
  have b_is_forward_wave := F_is_forward_wave.binds (ps := ["states", "i"]) fun _ _ _ _ _ _ us hl => match us, hl with | [_, _], _ => rfl
  have F_is_backward_wave := fun_mk (st := s_is_backward_wave) l_is_backward_wave c_is_backward_wave_ k_is_backward_wave_
  have b_is_backward_wave := F_is_backward_wave.binds (ps := ["states", "i"]) fun _ _ _ _ _ _ us hl => match us, hl with | [_, _], _ => rfl
  have F_forward_waves_in := fun_mk (st := s_forward_waves_in) l_forward_waves_in c_forward_waves_in_ k_forward_waves_in_
  have b_forward_waves_in := F_forward_waves_in.binds (ps := ["states"]) fun _ _ _ _ _ _ us hl => match us, hl with | [_], _ => rfl
  have F_backward_waves_in := fun_mk (st := s_backward_waves_in) l_backward_waves_in c_backward_waves_in_ k_backward_waves_in_
  have b_backward_waves_in := F_backward_waves_in.binds (ps := ["states"]) fun _ _ _ _ _ _ us hl => match us, hl with | [_], _ => rfl
  have F_require_at_most := fun_mk (st := s_require_at_most) l_require_at_most c_require_at_most_ k_require_at_most_
  have b_require_at_most := F_require_at_most.binds (ps := ["value", "greatest"]) fun _ _ _ _ _ _ us hl => match us, hl with | [_, _], _ => rfl
  have F_Simulator_init := fun_mk (st := s_Simulator_init) l_Simulator_init c_Simulator_init_ k_Simulator_init_
  have b_Simulator_init := F_Simulator_init.binds (ps := ["self", "sections"]) fun _ _ _ _ _ _ us hl => match us, hl with | [_, _], _ => rfl
  have F_Simulator_require_section := fun_mk (st := s_Simulator_require_section) l_Simulator_require_section c_Simulator_require_section_ k_Simulator_require_section_
  have b_Simulator_require_section := F_Simulator_require_section.binds (ps := ["self", "i"]) fun _ _ _ _ _ _ us hl => match us, hl with | [_, _], _ => rfl
  have F_Simulator_require_seated := fun_mk (st := s_Simulator_require_seated) l_Simulator_require_seated c_Simulator_require_seated_ k_Simulator_require_seated_
  have b_Simulator_require_seated := F_Simulator_require_seated.binds (ps := ["self", "i"]) fun _ _ _ _ _ _ us hl => match us, hl with | [_, _], _ => rfl
  have F_Simulator_set_section := fun_mk (st := s_Simulator_set_section) l_Simulator_set_section c_Simulator_set_section_ k_Simulator_set_section_
  have b_Simulator_set_section := F_Simulator_set_section.binds (ps := ["self", "i", "state"]) fun _ _ _ _ _ _ us hl => match us, hl with | [_, _, _], _ => rfl
  have F_Simulator_set_all := fun_mk (st := s_Simulator_set_all) l_Simulator_set_all c_Simulator_set_all_ k_Simulator_set_all_
  have b_Simulator_set_all := F_Simulator_set_all.binds (ps := ["self", "states"]) fun _ _ _ _ _ _ us hl => match us, hl with | [_, _], _ => rfl
  have F_Simulator_stand_up := fun_mk (st := s_Simulator_stand_up) l_Simulator_stand_up c_Simulator_stand_up_ k_Simulator_stand_up_
  have b_Simulator_stand_up := F_Simulator_stand_up.binds (ps := ["self", "i"]) fun _ _ _ _ _ _ us hl => match us, hl with | [_, _], _ => rfl
  have F_Simulator_start_wave := fun_mk (st := s_Simulator_start_wave) l_Simulator_start_wave c_Simulator_start_wave_ k_Simulator_start_wave_
  have b_Simulator_start_wave := F_Simulator_start_wave.binds (ps := ["self", "i", "direction"]) fun _ _ _ _ _ _ us hl => match us, hl with | [_, _, _], _ => rfl
  have F_Simulator_step := fun_mk (st := s_Simulator_step) l_Simulator_step c_Simulator_step_ k_Simulator_step_
  have b_Simulator_step := F_Simulator_step.binds (ps := ["self"]) fun _ _ _ _ _ _ us hl => match us, hl with | [_], _ => rfl
  have F_Simulator_advance := fun_mk (st := s_Simulator_advance) l_Simulator_advance c_Simulator_advance_ k_Simulator_advance_
  have b_Simulator_advance := F_Simulator_advance.binds (ps := ["self", "steps"]) fun _ _ _ _ _ _ us hl => match us, hl with | [_, _], _ => rfl
  have F_Simulator_rotate := fun_mk (st := s_Simulator_rotate) l_Simulator_rotate c_Simulator_rotate_ k_Simulator_rotate_
  have b_Simulator_rotate := F_Simulator_rotate.binds (ps := ["self", "distance"]) fun _ _ _ _ _ _ us hl => match us, hl with | [_, _], _ => rfl
  have F_Simulator_mirror := fun_mk (st := s_Simulator_mirror) l_Simulator_mirror c_Simulator_mirror_ k_Simulator_mirror_
  have b_Simulator_mirror := F_Simulator_mirror.binds (ps := ["self"]) fun _ _ _ _ _ _ us hl => match us, hl with | [_], _ => rfl
  have F_Simulator_sit_down := fun_mk (st := s_Simulator_sit_down) l_Simulator_sit_down c_Simulator_sit_down_ k_Simulator_sit_down_
  have b_Simulator_sit_down := F_Simulator_sit_down.binds (ps := ["self"]) fun _ _ _ _ _ _ us hl => match us, hl with | [_], _ => rfl
  have F_Simulator_get_ring := fun_mk (st := s_Simulator_get_ring) l_Simulator_get_ring c_Simulator_get_ring_ k_Simulator_get_ring_
  have b_Simulator_get_ring := F_Simulator_get_ring.binds (ps := ["self"]) fun _ _ _ _ _ _ us hl => match us, hl with | [_], _ => rfl
  have F_Simulator_get_section := fun_mk (st := s_Simulator_get_section) l_Simulator_get_section c_Simulator_get_section_ k_Simulator_get_section_
  have b_Simulator_get_section := F_Simulator_get_section.binds (ps := ["self", "i"]) fun _ _ _ _ _ _ us hl => match us, hl with | [_, _], _ => rfl
  have F_Simulator_ring_after := fun_mk (st := s_Simulator_ring_after) l_Simulator_ring_after c_Simulator_ring_after_ k_Simulator_ring_after_
  have b_Simulator_ring_after := F_Simulator_ring_after.binds (ps := ["self", "steps"]) fun _ _ _ _ _ _ us hl => match us, hl with | [_, _], _ => rfl
  have F_Simulator_winding_number := fun_mk (st := s_Simulator_winding_number) l_Simulator_winding_number c_Simulator_winding_number_ k_Simulator_winding_number_
  have b_Simulator_winding_number := F_Simulator_winding_number.binds (ps := ["self"]) fun _ _ _ _ _ _ us hl => match us, hl with | [_], _ => rfl
  have F_Simulator_steps_until_quiet := fun_mk (st := s_Simulator_steps_until_quiet) l_Simulator_steps_until_quiet c_Simulator_steps_until_quiet_ k_Simulator_steps_until_quiet_
  have b_Simulator_steps_until_quiet := F_Simulator_steps_until_quiet.binds (ps := ["self"]) fun _ _ _ _ _ _ us hl => match us, hl with | [_], _ => rfl
  have F_Simulator_cycle := fun_mk (st := s_Simulator_cycle) l_Simulator_cycle c_Simulator_cycle_ k_Simulator_cycle_
  have b_Simulator_cycle := F_Simulator_cycle.binds (ps := ["self"]) fun _ _ _ _ _ _ us hl => match us, hl with | [_], _ => rfl
  have F_Simulator_forward_waves := fun_mk (st := s_Simulator_forward_waves) l_Simulator_forward_waves c_Simulator_forward_waves_ k_Simulator_forward_waves_
  have b_Simulator_forward_waves := F_Simulator_forward_waves.binds (ps := ["self"]) fun _ _ _ _ _ _ us hl => match us, hl with | [_], _ => rfl
  have F_Simulator_backward_waves := fun_mk (st := s_Simulator_backward_waves) l_Simulator_backward_waves c_Simulator_backward_waves_ k_Simulator_backward_waves_
  have b_Simulator_backward_waves := F_Simulator_backward_waves.binds (ps := ["self"]) fun _ _ _ _ _ _ us hl => match us, hl with | [_], _ => rfl
  have F_Simulator_standing_count := fun_mk (st := s_Simulator_standing_count) l_Simulator_standing_count c_Simulator_standing_count_ k_Simulator_standing_count_
  have b_Simulator_standing_count := F_Simulator_standing_count.binds (ps := ["self"]) fun _ _ _ _ _ _ us hl => match us, hl with | [_], _ => rfl
  have F_Simulator_max_standing := fun_mk (st := s_Simulator_max_standing) l_Simulator_max_standing c_Simulator_max_standing_ k_Simulator_max_standing_
  have b_Simulator_max_standing := F_Simulator_max_standing.binds (ps := ["self"]) fun _ _ _ _ _ _ us hl => match us, hl with | [_], _ => rfl
  have F_Simulator_first_standing := fun_mk (st := s_Simulator_first_standing) l_Simulator_first_standing c_Simulator_first_standing_ k_Simulator_first_standing_
  have b_Simulator_first_standing := F_Simulator_first_standing.binds (ps := ["self", "i"]) fun _ _ _ _ _ _ us hl => match us, hl with | [_, _], _ => rfl
  have F_Simulator_quiet_if_stand_up := fun_mk (st := s_Simulator_quiet_if_stand_up) l_Simulator_quiet_if_stand_up c_Simulator_quiet_if_stand_up_ k_Simulator_quiet_if_stand_up_
  have b_Simulator_quiet_if_stand_up := F_Simulator_quiet_if_stand_up.binds (ps := ["self", "i"]) fun _ _ _ _ _ _ us hl => match us, hl with | [_, _], _ => rfl
  have F_Simulator_get_state := fun_mk (st := s_Simulator_get_state) l_Simulator_get_state c_Simulator_get_state_ k_Simulator_get_state_
  have b_Simulator_get_state := F_Simulator_get_state.binds (ps := ["self"]) fun _ _ _ _ _ _ us hl => match us, hl with | [_], _ => rfl
  have F_answer_change := fun_mk (st := s_answer_change) l_answer_change c_answer_change_ k_answer_change_
  have b_answer_change := F_answer_change.binds (ps := ["simulator", "number", "arguments"]) fun _ _ _ _ _ _ us hl => match us, hl with | [_, _, _], _ => rfl
  have F_answer_query := fun_mk (st := s_answer_query) l_answer_query c_answer_query_ k_answer_query_
  have b_answer_query := F_answer_query.binds (ps := ["simulator", "number", "arguments"]) fun _ _ _ _ _ _ us hl => match us, hl with | [_, _, _], _ => rfl
  have F_Session_init := fun_mk (st := s_Session_init) l_Session_init c_Session_init_ k_Session_init_
  have b_Session_init := F_Session_init.binds (ps := ["self"]) fun _ _ _ _ _ _ us hl => match us, hl with | [_], _ => rfl
  have F_Session_answer := fun_mk (st := s_Session_answer) l_Session_answer c_Session_answer_ k_Session_answer_
  have b_Session_answer := F_Session_answer.binds (ps := ["self", "number", "arguments"]) fun _ _ _ _ _ _ us hl => match us, hl with | [_, _, _], _ => rfl
  have F_Session_execute := fun_mk (st := s_Session_execute) l_Session_execute c_Session_execute_ k_Session_execute_
  have b_Session_execute := F_Session_execute.binds (ps := ["self", "number", "arguments"]) fun _ _ _ _ _ _ us hl => match us, hl with | [_, _, _], _ => rfl
  have F_Session_create := fun_mk (st := s_Session_create) l_Session_create c_Session_create_ k_Session_create_
  have b_Session_create := F_Session_create.binds (ps := ["self", "sections"]) fun _ _ _ _ _ _ us hl => match us, hl with | [_, _], _ => rfl
  have F_answers := fun_mk (st := s_answers) l_answers c_answers_ k_answers_
  have b_answers := F_answers.binds (ps := ["calls"]) fun _ _ _ _ _ _ us hl => match us, hl with | [_], _ => rfl
  have e_Refusal : ErrC K c_Refusal := ⟨ini_of x_Refusal rfl, ovr_of x_Refusal rfl, nc_Refusal, sa_Refusal, ex_Refusal, ty_Refusal, kc_Refusal, hd_Refusal⟩
  have e_NoSimulator : ErrC K c_NoSimulator := ⟨ini_of x_NoSimulator rfl, ovr_of x_NoSimulator rfl, nc_NoSimulator, sa_NoSimulator, ex_NoSimulator, ty_NoSimulator, kc_NoSimulator, hd_NoSimulator⟩
  have e_NoSection : ErrC K c_NoSection := ⟨ini_of x_NoSection rfl, ovr_of x_NoSection rfl, nc_NoSection, sa_NoSection, ex_NoSection, ty_NoSection, kc_NoSection, hd_NoSection⟩
  have e_NotSeated : ErrC K c_NotSeated := ⟨ini_of x_NotSeated rfl, ovr_of x_NotSeated rfl, nc_NotSeated, sa_NotSeated, ex_NotSeated, ty_NotSeated, kc_NotSeated, hd_NotSeated⟩
  have e_OutOfRange : ErrC K c_OutOfRange := ⟨ini_of x_OutOfRange rfl, ovr_of x_OutOfRange rfl, nc_OutOfRange, sa_OutOfRange, ex_OutOfRange, ty_OutOfRange, kc_OutOfRange, hd_OutOfRange⟩
  have e_NeverHappens : ErrC K c_NeverHappens := ⟨ini_of x_NeverHappens rfl, ovr_of x_NeverHappens rfl, nc_NeverHappens, sa_NeverHappens, ex_NeverHappens, ty_NeverHappens, kc_NeverHappens, hd_NeverHappens⟩
  let A : Ad := { f_split_calls := f_split_calls, f_Refusal_init := f_Refusal_init, f_NoSimulator_init := f_NoSimulator_init, f_NoSection_init := f_NoSection_init, f_NotSeated_init := f_NotSeated_init, f_OutOfRange_init := f_OutOfRange_init, f_NeverHappens_init := f_NeverHappens_init, f_next_section := f_next_section, f_previous_section := f_previous_section, f_standing_in := f_standing_in, f_section_after_step := f_section_after_step, f_after_step := f_after_step, f_after_steps := f_after_steps, f_rotated := f_rotated, f_mirrored := f_mirrored, f_rings_until_repeat := f_rings_until_repeat, f_steps_to_quiet := f_steps_to_quiet, f_steps_to_standing := f_steps_to_standing, f_cycle_of := f_cycle_of, f_most_standing := f_most_standing, f_phase_difference := f_phase_difference, f_winding_of := f_winding_of, f_is_wave := f_is_wave, f_is_forward_wave := f_is_forward_wave, f_is_backward_wave := f_is_backward_wave, f_forward_waves_in := f_forward_waves_in, f_backward_waves_in := f_backward_waves_in, f_require_at_most := f_require_at_most, f_Simulator_init := f_Simulator_init, f_Simulator_require_section := f_Simulator_require_section, f_Simulator_require_seated := f_Simulator_require_seated, f_Simulator_set_section := f_Simulator_set_section, f_Simulator_set_all := f_Simulator_set_all, f_Simulator_stand_up := f_Simulator_stand_up, f_Simulator_start_wave := f_Simulator_start_wave, f_Simulator_step := f_Simulator_step, f_Simulator_advance := f_Simulator_advance, f_Simulator_rotate := f_Simulator_rotate, f_Simulator_mirror := f_Simulator_mirror, f_Simulator_sit_down := f_Simulator_sit_down, f_Simulator_get_ring := f_Simulator_get_ring, f_Simulator_get_section := f_Simulator_get_section, f_Simulator_ring_after := f_Simulator_ring_after, f_Simulator_winding_number := f_Simulator_winding_number, f_Simulator_steps_until_quiet := f_Simulator_steps_until_quiet, f_Simulator_cycle := f_Simulator_cycle, f_Simulator_forward_waves := f_Simulator_forward_waves, f_Simulator_backward_waves := f_Simulator_backward_waves, f_Simulator_standing_count := f_Simulator_standing_count, f_Simulator_max_standing := f_Simulator_max_standing, f_Simulator_first_standing := f_Simulator_first_standing, f_Simulator_quiet_if_stand_up := f_Simulator_quiet_if_stand_up, f_Simulator_get_state := f_Simulator_get_state, f_answer_change := f_answer_change, f_answer_query := f_answer_query, f_Session_init := f_Session_init, f_Session_answer := f_Session_answer, f_Session_execute := f_Session_execute, f_Session_create := f_Session_create, f_answers := fa, c_Refusal := c_Refusal, c_NoSimulator := c_NoSimulator, c_NoSection := c_NoSection, c_NotSeated := c_NotSeated, c_OutOfRange := c_OutOfRange, c_NeverHappens := c_NeverHappens, c_Simulator := c_Simulator, c_Session := c_Session, t_ARGUMENT_COUNTS := t_ARGUMENT_COUNTS }
  have T : Txt K mg A := {
    n_len := PySem.W.mg_none_of X G n_len,
    n_Exception := PySem.W.mg_none_of X G n_Exception,
    n_range := PySem.W.mg_none_of X G n_range,
    n_list := PySem.W.mg_none_of X G n_list,
    n_enumerate := PySem.W.mg_none_of X G n_enumerate,
    n_max := PySem.W.mg_none_of X G n_max,
    n_sum := PySem.W.mg_none_of X G n_sum,
    v_CREATE := ⟨_, PySem.W.mg_of X G v_CREATE⟩,
    v_SET_SECTION := ⟨_, PySem.W.mg_of X G v_SET_SECTION⟩,
    v_SET_ALL := ⟨_, PySem.W.mg_of X G v_SET_ALL⟩,
    v_STAND_UP := ⟨_, PySem.W.mg_of X G v_STAND_UP⟩,
    v_START_WAVE := ⟨_, PySem.W.mg_of X G v_START_WAVE⟩,
    v_STEP := ⟨_, PySem.W.mg_of X G v_STEP⟩,
    v_ADVANCE := ⟨_, PySem.W.mg_of X G v_ADVANCE⟩,
    v_ROTATE := ⟨_, PySem.W.mg_of X G v_ROTATE⟩,
    v_MIRROR := ⟨_, PySem.W.mg_of X G v_MIRROR⟩,
    v_SIT_DOWN := ⟨_, PySem.W.mg_of X G v_SIT_DOWN⟩,
    v_GET_RING := ⟨_, PySem.W.mg_of X G v_GET_RING⟩,
    v_GET_SECTION := ⟨_, PySem.W.mg_of X G v_GET_SECTION⟩,
    v_RING_AFTER := ⟨_, PySem.W.mg_of X G v_RING_AFTER⟩,
    v_WINDING_NUMBER := ⟨_, PySem.W.mg_of X G v_WINDING_NUMBER⟩,
    v_STEPS_UNTIL_QUIET := ⟨_, PySem.W.mg_of X G v_STEPS_UNTIL_QUIET⟩,
    v_CYCLE := ⟨_, PySem.W.mg_of X G v_CYCLE⟩,
    v_FORWARD_WAVES := ⟨_, PySem.W.mg_of X G v_FORWARD_WAVES⟩,
    v_BACKWARD_WAVES := ⟨_, PySem.W.mg_of X G v_BACKWARD_WAVES⟩,
    v_STANDING_COUNT := ⟨_, PySem.W.mg_of X G v_STANDING_COUNT⟩,
    v_MAX_STANDING := ⟨_, PySem.W.mg_of X G v_MAX_STANDING⟩,
    v_FIRST_STANDING := ⟨_, PySem.W.mg_of X G v_FIRST_STANDING⟩,
    v_QUIET_IF_STAND_UP := ⟨_, PySem.W.mg_of X G v_QUIET_IF_STAND_UP⟩,
    v_ARGUMENT_COUNTS := PySem.W.mg_of X G v_ARGUMENT_COUNTS,
    u_ARGUMENT_COUNTS := ⟨_, _, _, u_ARGUMENT_COUNTS, rfl, rfl, by show 23 ≤ sizeLine; decide, (.cons ⟨_, rfl⟩ (.cons ⟨_, rfl⟩ (.cons ⟨_, rfl⟩ (.cons ⟨_, rfl⟩ (.cons ⟨_, rfl⟩ (.cons ⟨_, rfl⟩ (.cons ⟨_, rfl⟩ (.cons ⟨_, rfl⟩ (.cons ⟨_, rfl⟩ (.cons ⟨_, rfl⟩ (.cons ⟨_, rfl⟩ (.cons ⟨_, rfl⟩ (.cons ⟨_, rfl⟩ (.cons ⟨_, rfl⟩ (.cons ⟨_, rfl⟩ (.cons ⟨_, rfl⟩ (.cons ⟨_, rfl⟩ (.cons ⟨_, rfl⟩ (.cons ⟨_, rfl⟩ (.cons ⟨_, rfl⟩ (.cons ⟨_, rfl⟩ (.cons ⟨_, rfl⟩ (.cons ⟨_, rfl⟩ .nil)))))))))))))))))))))))⟩,
    v_SEATED := ⟨_, PySem.W.mg_of X G v_SEATED⟩,
    v_STANDING := ⟨_, PySem.W.mg_of X G v_STANDING⟩,
    v_RESTING := ⟨_, PySem.W.mg_of X G v_RESTING⟩,
    v_MOST_STEPS_AHEAD := ⟨_, PySem.W.mg_of X G v_MOST_STEPS_AHEAD⟩,
    v_TOWARDS_NEXT := ⟨_, PySem.W.mg_of X G v_TOWARDS_NEXT⟩,
    v_TOWARDS_PREVIOUS := ⟨_, PySem.W.mg_of X G v_TOWARDS_PREVIOUS⟩,
    v_MOST_STEPS := ⟨_, PySem.W.mg_of X G v_MOST_STEPS⟩,
    v_GREATEST_DISTANCE := ⟨_, PySem.W.mg_of X G v_GREATEST_DISTANCE⟩,
    v_FEWEST_SECTIONS := ⟨_, PySem.W.mg_of X G v_FEWEST_SECTIONS⟩,
    v_MOST_SECTIONS := ⟨_, PySem.W.mg_of X G v_MOST_SECTIONS⟩,
    g_split_calls := PySem.W.mg_of X G a_split_calls,
    F_split_calls := ⟨_, F_split_calls, b_split_calls⟩,
    F_Refusal_init := ⟨_, F_Refusal_init, b_Refusal_init⟩,
    F_NoSimulator_init := ⟨_, F_NoSimulator_init, b_NoSimulator_init⟩,
    F_NoSection_init := ⟨_, F_NoSection_init, b_NoSection_init⟩,
    F_NotSeated_init := ⟨_, F_NotSeated_init, b_NotSeated_init⟩,
    F_OutOfRange_init := ⟨_, F_OutOfRange_init, b_OutOfRange_init⟩,
    F_NeverHappens_init := ⟨_, F_NeverHappens_init, b_NeverHappens_init⟩,
    g_next_section := PySem.W.mg_of X G a_next_section,
    F_next_section := ⟨_, F_next_section, b_next_section⟩,
    g_previous_section := PySem.W.mg_of X G a_previous_section,
    F_previous_section := ⟨_, F_previous_section, b_previous_section⟩,
    g_standing_in := PySem.W.mg_of X G a_standing_in,
    F_standing_in := ⟨_, F_standing_in, b_standing_in⟩,
    g_section_after_step := PySem.W.mg_of X G a_section_after_step,
    F_section_after_step := ⟨_, F_section_after_step, b_section_after_step⟩,
    g_after_step := PySem.W.mg_of X G a_after_step,
    F_after_step := ⟨_, F_after_step, b_after_step⟩,
    g_after_steps := PySem.W.mg_of X G a_after_steps,
    F_after_steps := ⟨_, F_after_steps, b_after_steps⟩,
    g_rotated := PySem.W.mg_of X G a_rotated,
    F_rotated := ⟨_, F_rotated, b_rotated⟩,
    g_mirrored := PySem.W.mg_of X G a_mirrored,
    F_mirrored := ⟨_, F_mirrored, b_mirrored⟩,
    g_rings_until_repeat := PySem.W.mg_of X G a_rings_until_repeat,
    F_rings_until_repeat := ⟨_, F_rings_until_repeat, b_rings_until_repeat⟩,
    g_steps_to_quiet := PySem.W.mg_of X G a_steps_to_quiet,
    F_steps_to_quiet := ⟨_, F_steps_to_quiet, b_steps_to_quiet⟩,
    g_steps_to_standing := PySem.W.mg_of X G a_steps_to_standing,
    F_steps_to_standing := ⟨_, F_steps_to_standing, b_steps_to_standing⟩,
    g_cycle_of := PySem.W.mg_of X G a_cycle_of,
    F_cycle_of := ⟨_, F_cycle_of, b_cycle_of⟩,
    g_most_standing := PySem.W.mg_of X G a_most_standing,
    F_most_standing := ⟨_, F_most_standing, b_most_standing⟩,
    g_phase_difference := PySem.W.mg_of X G a_phase_difference,
    F_phase_difference := ⟨_, F_phase_difference, b_phase_difference⟩,
    g_winding_of := PySem.W.mg_of X G a_winding_of,
    F_winding_of := ⟨_, F_winding_of, b_winding_of⟩,
    g_is_wave := PySem.W.mg_of X G a_is_wave,
    F_is_wave := ⟨_, F_is_wave, b_is_wave⟩,
    g_is_forward_wave := PySem.W.mg_of X G a_is_forward_wave,
    F_is_forward_wave := ⟨_, F_is_forward_wave, b_is_forward_wave⟩,
    g_is_backward_wave := PySem.W.mg_of X G a_is_backward_wave,
    F_is_backward_wave := ⟨_, F_is_backward_wave, b_is_backward_wave⟩,
    g_forward_waves_in := PySem.W.mg_of X G a_forward_waves_in,
    F_forward_waves_in := ⟨_, F_forward_waves_in, b_forward_waves_in⟩,
    g_backward_waves_in := PySem.W.mg_of X G a_backward_waves_in,
    F_backward_waves_in := ⟨_, F_backward_waves_in, b_backward_waves_in⟩,
    g_require_at_most := PySem.W.mg_of X G a_require_at_most,
    F_require_at_most := ⟨_, F_require_at_most, b_require_at_most⟩,
    F_Simulator_init := ⟨_, F_Simulator_init, b_Simulator_init⟩,
    F_Simulator_require_section := ⟨_, F_Simulator_require_section, b_Simulator_require_section⟩,
    F_Simulator_require_seated := ⟨_, F_Simulator_require_seated, b_Simulator_require_seated⟩,
    F_Simulator_set_section := ⟨_, F_Simulator_set_section, b_Simulator_set_section⟩,
    F_Simulator_set_all := ⟨_, F_Simulator_set_all, b_Simulator_set_all⟩,
    F_Simulator_stand_up := ⟨_, F_Simulator_stand_up, b_Simulator_stand_up⟩,
    F_Simulator_start_wave := ⟨_, F_Simulator_start_wave, b_Simulator_start_wave⟩,
    F_Simulator_step := ⟨_, F_Simulator_step, b_Simulator_step⟩,
    F_Simulator_advance := ⟨_, F_Simulator_advance, b_Simulator_advance⟩,
    F_Simulator_rotate := ⟨_, F_Simulator_rotate, b_Simulator_rotate⟩,
    F_Simulator_mirror := ⟨_, F_Simulator_mirror, b_Simulator_mirror⟩,
    F_Simulator_sit_down := ⟨_, F_Simulator_sit_down, b_Simulator_sit_down⟩,
    F_Simulator_get_ring := ⟨_, F_Simulator_get_ring, b_Simulator_get_ring⟩,
    F_Simulator_get_section := ⟨_, F_Simulator_get_section, b_Simulator_get_section⟩,
    F_Simulator_ring_after := ⟨_, F_Simulator_ring_after, b_Simulator_ring_after⟩,
    F_Simulator_winding_number := ⟨_, F_Simulator_winding_number, b_Simulator_winding_number⟩,
    F_Simulator_steps_until_quiet := ⟨_, F_Simulator_steps_until_quiet, b_Simulator_steps_until_quiet⟩,
    F_Simulator_cycle := ⟨_, F_Simulator_cycle, b_Simulator_cycle⟩,
    F_Simulator_forward_waves := ⟨_, F_Simulator_forward_waves, b_Simulator_forward_waves⟩,
    F_Simulator_backward_waves := ⟨_, F_Simulator_backward_waves, b_Simulator_backward_waves⟩,
    F_Simulator_standing_count := ⟨_, F_Simulator_standing_count, b_Simulator_standing_count⟩,
    F_Simulator_max_standing := ⟨_, F_Simulator_max_standing, b_Simulator_max_standing⟩,
    F_Simulator_first_standing := ⟨_, F_Simulator_first_standing, b_Simulator_first_standing⟩,
    F_Simulator_quiet_if_stand_up := ⟨_, F_Simulator_quiet_if_stand_up, b_Simulator_quiet_if_stand_up⟩,
    F_Simulator_get_state := ⟨_, F_Simulator_get_state, b_Simulator_get_state⟩,
    g_answer_change := PySem.W.mg_of X G a_answer_change,
    F_answer_change := ⟨_, F_answer_change, b_answer_change⟩,
    g_answer_query := PySem.W.mg_of X G a_answer_query,
    F_answer_query := ⟨_, F_answer_query, b_answer_query⟩,
    F_Session_init := ⟨_, F_Session_init, b_Session_init⟩,
    F_Session_answer := ⟨_, F_Session_answer, b_Session_answer⟩,
    F_Session_execute := ⟨_, F_Session_execute, b_Session_execute⟩,
    F_Session_create := ⟨_, F_Session_create, b_Session_create⟩,
    g_answers := PySem.W.mg_of X G a_answers,
    F_answers := ⟨_, F_answers, b_answers⟩,
    g_Refusal := PySem.W.mg_of X G g_Refusal,
    e_Refusal := e_Refusal,
    i_Refusal := a_Refusal_init,
    t_Refusal := ti_Refusal_init,
    xf_Refusal := ⟨ga_Refusal, gg_Refusal, ex_Refusal, hd_Refusal⟩,
    x_Refusal := exm_of' ex_Refusal is_Refusal ty_Refusal sr_Refusal ex_Refusal,
    g_NoSimulator := PySem.W.mg_of X G g_NoSimulator,
    e_NoSimulator := e_NoSimulator,
    i_NoSimulator := a_NoSimulator_init,
    t_NoSimulator := ti_NoSimulator_init,
    xf_NoSimulator := ⟨ga_NoSimulator, gg_NoSimulator, ex_NoSimulator, hd_NoSimulator⟩,
    x_NoSimulator := exm_of' ex_NoSimulator is_Refusal ty_Refusal sr_NoSimulator ex_Refusal,
    g_NoSection := PySem.W.mg_of X G g_NoSection,
    e_NoSection := e_NoSection,
    i_NoSection := a_NoSection_init,
    t_NoSection := ti_NoSection_init,
    xf_NoSection := ⟨ga_NoSection, gg_NoSection, ex_NoSection, hd_NoSection⟩,
    x_NoSection := exm_of' ex_NoSection is_Refusal ty_Refusal sr_NoSection ex_Refusal,
    g_NotSeated := PySem.W.mg_of X G g_NotSeated,
    e_NotSeated := e_NotSeated,
    i_NotSeated := a_NotSeated_init,
    t_NotSeated := ti_NotSeated_init,
    xf_NotSeated := ⟨ga_NotSeated, gg_NotSeated, ex_NotSeated, hd_NotSeated⟩,
    x_NotSeated := exm_of' ex_NotSeated is_Refusal ty_Refusal sr_NotSeated ex_Refusal,
    g_OutOfRange := PySem.W.mg_of X G g_OutOfRange,
    e_OutOfRange := e_OutOfRange,
    i_OutOfRange := a_OutOfRange_init,
    t_OutOfRange := ti_OutOfRange_init,
    xf_OutOfRange := ⟨ga_OutOfRange, gg_OutOfRange, ex_OutOfRange, hd_OutOfRange⟩,
    x_OutOfRange := exm_of' ex_OutOfRange is_Refusal ty_Refusal sr_OutOfRange ex_Refusal,
    g_NeverHappens := PySem.W.mg_of X G g_NeverHappens,
    e_NeverHappens := e_NeverHappens,
    i_NeverHappens := a_NeverHappens_init,
    t_NeverHappens := ti_NeverHappens_init,
    xf_NeverHappens := ⟨ga_NeverHappens, gg_NeverHappens, ex_NeverHappens, hd_NeverHappens⟩,
    x_NeverHappens := exm_of' ex_NeverHappens is_Refusal ty_Refusal sr_NeverHappens ex_Refusal,
    g_Simulator := PySem.W.mg_of X G g_Simulator,
    cl_Simulator := ⟨pg_Simulator, hd_Simulator, po_Simulator, sa_Simulator⟩,
    k_Simulator := ⟨mk_Simulator, a_Simulator_init, i_Simulator_init, kc_Simulator⟩,
    m_Simulator_require_section := ⟨a_Simulator_require_section, i_Simulator_require_section, k_Simulator_require_section_⟩,
    m_Simulator_require_seated := ⟨a_Simulator_require_seated, i_Simulator_require_seated, k_Simulator_require_seated_⟩,
    m_Simulator_set_section := ⟨a_Simulator_set_section, i_Simulator_set_section, k_Simulator_set_section_⟩,
    m_Simulator_set_all := ⟨a_Simulator_set_all, i_Simulator_set_all, k_Simulator_set_all_⟩,
    m_Simulator_stand_up := ⟨a_Simulator_stand_up, i_Simulator_stand_up, k_Simulator_stand_up_⟩,
    m_Simulator_start_wave := ⟨a_Simulator_start_wave, i_Simulator_start_wave, k_Simulator_start_wave_⟩,
    m_Simulator_step := ⟨a_Simulator_step, i_Simulator_step, k_Simulator_step_⟩,
    m_Simulator_advance := ⟨a_Simulator_advance, i_Simulator_advance, k_Simulator_advance_⟩,
    m_Simulator_rotate := ⟨a_Simulator_rotate, i_Simulator_rotate, k_Simulator_rotate_⟩,
    m_Simulator_mirror := ⟨a_Simulator_mirror, i_Simulator_mirror, k_Simulator_mirror_⟩,
    m_Simulator_sit_down := ⟨a_Simulator_sit_down, i_Simulator_sit_down, k_Simulator_sit_down_⟩,
    m_Simulator_get_ring := ⟨a_Simulator_get_ring, i_Simulator_get_ring, k_Simulator_get_ring_⟩,
    m_Simulator_get_section := ⟨a_Simulator_get_section, i_Simulator_get_section, k_Simulator_get_section_⟩,
    m_Simulator_ring_after := ⟨a_Simulator_ring_after, i_Simulator_ring_after, k_Simulator_ring_after_⟩,
    m_Simulator_winding_number := ⟨a_Simulator_winding_number, i_Simulator_winding_number, k_Simulator_winding_number_⟩,
    m_Simulator_steps_until_quiet := ⟨a_Simulator_steps_until_quiet, i_Simulator_steps_until_quiet, k_Simulator_steps_until_quiet_⟩,
    m_Simulator_cycle := ⟨a_Simulator_cycle, i_Simulator_cycle, k_Simulator_cycle_⟩,
    m_Simulator_forward_waves := ⟨a_Simulator_forward_waves, i_Simulator_forward_waves, k_Simulator_forward_waves_⟩,
    m_Simulator_backward_waves := ⟨a_Simulator_backward_waves, i_Simulator_backward_waves, k_Simulator_backward_waves_⟩,
    m_Simulator_standing_count := ⟨a_Simulator_standing_count, i_Simulator_standing_count, k_Simulator_standing_count_⟩,
    m_Simulator_max_standing := ⟨a_Simulator_max_standing, i_Simulator_max_standing, k_Simulator_max_standing_⟩,
    m_Simulator_first_standing := ⟨a_Simulator_first_standing, i_Simulator_first_standing, k_Simulator_first_standing_⟩,
    m_Simulator_quiet_if_stand_up := ⟨a_Simulator_quiet_if_stand_up, i_Simulator_quiet_if_stand_up, k_Simulator_quiet_if_stand_up_⟩,
    m_Simulator_get_state := ⟨a_Simulator_get_state, i_Simulator_get_state, k_Simulator_get_state_⟩,
    na_Simulator_states := na_Simulator_states,
    na_Simulator_time := na_Simulator_time,
    g_Session := PySem.W.mg_of X G g_Session,
    cl_Session := ⟨pg_Session, hd_Session, po_Session, sa_Session⟩,
    k_Session := ⟨mk_Session, a_Session_init, i_Session_init, kc_Session⟩,
    m_Session_answer := ⟨a_Session_answer, i_Session_answer, k_Session_answer_⟩,
    m_Session_execute := ⟨a_Session_execute, i_Session_execute, k_Session_execute_⟩,
    m_Session_create := ⟨a_Session_create, i_Session_create, k_Session_create_⟩,
    na_Session_simulator := na_Session_simulator,
    r_Refusal := ⟨rd, rg⟩,
    o_Refusal := ro,
    vE := find_init }
  exact ⟨_, fun s us hu => match us, hu with | [_], _ => .of_eq rfl, fun base _ _ => ok_answers T F_answers (ok_Session_execute T)⟩
end Sw
open PySem PySem.W PyProof.Rows
set_option maxRecDepth 100000 in
set_option maxHeartbeats 8000000 in
theorem PySem.Challenge.cw_seatwave_s01_answers_holds : PySem.Challenge.rw_seatwave_s01_answers.Holds := by
  w_on; k_headS; (case hw => exact ⟨[.list [.int 5]], by decide +kernel, by decide +kernel⟩)
  k_fillS
  refine L2.walk_specK (r := PySem.Challenge.rw_seatwave_s01_answers) (k := 20) (CX := L2.CX0) (ps := ["calls"]) (sp := Sw.spAns) (by decide +kernel) rfl rfl ⟨rfl, by decide, by decide⟩ (fun w h Y => PySem.W.kIn_of Y) ?F ?S (fun _ _ _ _ z => z)
  case F =>
    intro w mg fa h Y KX G hmg
    refine' Sw.all_mk KX G hmg ?n_len ?n_Exception ?n_range ?n_list ?n_enumerate ?n_max ?n_sum ?v_CREATE ?v_SET_SECTION ?v_SET_ALL ?v_STAND_UP ?v_START_WAVE ?v_STEP ?v_ADVANCE ?v_ROTATE ?v_MIRROR ?v_SIT_DOWN ?v_GET_RING ?v_GET_SECTION ?v_RING_AFTER ?v_WINDING_NUMBER ?v_STEPS_UNTIL_QUIET ?v_CYCLE ?v_FORWARD_WAVES ?v_BACKWARD_WAVES ?v_STANDING_COUNT ?v_MAX_STANDING ?v_FIRST_STANDING ?v_QUIET_IF_STAND_UP ?v_ARGUMENT_COUNTS ?u_ARGUMENT_COUNTS ?v_SEATED ?v_STANDING ?v_RESTING ?v_MOST_STEPS_AHEAD ?v_TOWARDS_NEXT ?v_TOWARDS_PREVIOUS ?v_MOST_STEPS ?v_GREATEST_DISTANCE ?v_FEWEST_SECTIONS ?v_MOST_SECTIONS ?g_Refusal ?g_NoSimulator ?g_NoSection ?g_NotSeated ?g_OutOfRange ?g_NeverHappens ?g_Simulator ?g_Session ?a_split_calls ?l_split_calls ?c_split_calls_ ?k_split_calls_ ?a_Refusal_init ?i_Refusal_init ?ti_Refusal_init ?l_Refusal_init ?c_Refusal_init_ ?k_Refusal_init_ ?a_NoSimulator_init ?i_NoSimulator_init ?ti_NoSimulator_init ?l_NoSimulator_init ?c_NoSimulator_init_ ?k_NoSimulator_init_ ?a_NoSection_init ?i_NoSection_init ?ti_NoSection_init ?l_NoSection_init ?c_NoSection_init_ ?k_NoSection_init_ ?a_NotSeated_init ?i_NotSeated_init ?ti_NotSeated_init ?l_NotSeated_init ?c_NotSeated_init_ ?k_NotSeated_init_ ?a_OutOfRange_init ?i_OutOfRange_init ?ti_OutOfRange_init ?l_OutOfRange_init ?c_OutOfRange_init_ ?k_OutOfRange_init_ ?a_NeverHappens_init ?i_NeverHappens_init ?ti_NeverHappens_init ?l_NeverHappens_init ?c_NeverHappens_init_ ?k_NeverHappens_init_ ?a_next_section ?l_next_section ?c_next_section_ ?k_next_section_ ?a_previous_section ?l_previous_section ?c_previous_section_ ?k_previous_section_ ?a_standing_in ?l_standing_in ?c_standing_in_ ?k_standing_in_ ?a_section_after_step ?l_section_after_step ?c_section_after_step_ ?k_section_after_step_ ?a_after_step ?l_after_step ?c_after_step_ ?k_after_step_ ?a_after_steps ?l_after_steps ?c_after_steps_ ?k_after_steps_ ?a_rotated ?l_rotated ?c_rotated_ ?k_rotated_ ?a_mirrored ?l_mirrored ?c_mirrored_ ?k_mirrored_ ?a_rings_until_repeat ?l_rings_until_repeat ?c_rings_until_repeat_ ?k_rings_until_repeat_ ?a_steps_to_quiet ?l_steps_to_quiet ?c_steps_to_quiet_ ?k_steps_to_quiet_ ?a_steps_to_standing ?l_steps_to_standing ?c_steps_to_standing_ ?k_steps_to_standing_ ?a_cycle_of ?l_cycle_of ?c_cycle_of_ ?k_cycle_of_ ?a_most_standing ?l_most_standing ?c_most_standing_ ?k_most_standing_ ?a_phase_difference ?l_phase_difference ?c_phase_difference_ ?k_phase_difference_ ?a_winding_of ?l_winding_of ?c_winding_of_ ?k_winding_of_ ?a_is_wave ?l_is_wave ?c_is_wave_ ?k_is_wave_ ?a_is_forward_wave ?l_is_forward_wave ?c_is_forward_wave_ ?k_is_forward_wave_ ?a_is_backward_wave ?l_is_backward_wave ?c_is_backward_wave_ ?k_is_backward_wave_ ?a_forward_waves_in ?l_forward_waves_in ?c_forward_waves_in_ ?k_forward_waves_in_ ?a_backward_waves_in ?l_backward_waves_in ?c_backward_waves_in_ ?k_backward_waves_in_ ?a_require_at_most ?l_require_at_most ?c_require_at_most_ ?k_require_at_most_ ?a_Simulator_init ?i_Simulator_init ?l_Simulator_init ?c_Simulator_init_ ?k_Simulator_init_ ?a_Simulator_require_section ?i_Simulator_require_section ?l_Simulator_require_section ?c_Simulator_require_section_ ?k_Simulator_require_section_ ?a_Simulator_require_seated ?i_Simulator_require_seated ?l_Simulator_require_seated ?c_Simulator_require_seated_ ?k_Simulator_require_seated_ ?a_Simulator_set_section ?i_Simulator_set_section ?l_Simulator_set_section ?c_Simulator_set_section_ ?k_Simulator_set_section_ ?a_Simulator_set_all ?i_Simulator_set_all ?l_Simulator_set_all ?c_Simulator_set_all_ ?k_Simulator_set_all_ ?a_Simulator_stand_up ?i_Simulator_stand_up ?l_Simulator_stand_up ?c_Simulator_stand_up_ ?k_Simulator_stand_up_ ?a_Simulator_start_wave ?i_Simulator_start_wave ?l_Simulator_start_wave ?c_Simulator_start_wave_ ?k_Simulator_start_wave_ ?a_Simulator_step ?i_Simulator_step ?l_Simulator_step ?c_Simulator_step_ ?k_Simulator_step_ ?a_Simulator_advance ?i_Simulator_advance ?l_Simulator_advance ?c_Simulator_advance_ ?k_Simulator_advance_ ?a_Simulator_rotate ?i_Simulator_rotate ?l_Simulator_rotate ?c_Simulator_rotate_ ?k_Simulator_rotate_ ?a_Simulator_mirror ?i_Simulator_mirror ?l_Simulator_mirror ?c_Simulator_mirror_ ?k_Simulator_mirror_ ?a_Simulator_sit_down ?i_Simulator_sit_down ?l_Simulator_sit_down ?c_Simulator_sit_down_ ?k_Simulator_sit_down_ ?a_Simulator_get_ring ?i_Simulator_get_ring ?l_Simulator_get_ring ?c_Simulator_get_ring_ ?k_Simulator_get_ring_ ?a_Simulator_get_section ?i_Simulator_get_section ?l_Simulator_get_section ?c_Simulator_get_section_ ?k_Simulator_get_section_ ?a_Simulator_ring_after ?i_Simulator_ring_after ?l_Simulator_ring_after ?c_Simulator_ring_after_ ?k_Simulator_ring_after_ ?a_Simulator_winding_number ?i_Simulator_winding_number ?l_Simulator_winding_number ?c_Simulator_winding_number_ ?k_Simulator_winding_number_ ?a_Simulator_steps_until_quiet ?i_Simulator_steps_until_quiet ?l_Simulator_steps_until_quiet ?c_Simulator_steps_until_quiet_ ?k_Simulator_steps_until_quiet_ ?a_Simulator_cycle ?i_Simulator_cycle ?l_Simulator_cycle ?c_Simulator_cycle_ ?k_Simulator_cycle_ ?a_Simulator_forward_waves ?i_Simulator_forward_waves ?l_Simulator_forward_waves ?c_Simulator_forward_waves_ ?k_Simulator_forward_waves_ ?a_Simulator_backward_waves ?i_Simulator_backward_waves ?l_Simulator_backward_waves ?c_Simulator_backward_waves_ ?k_Simulator_backward_waves_ ?a_Simulator_standing_count ?i_Simulator_standing_count ?l_Simulator_standing_count ?c_Simulator_standing_count_ ?k_Simulator_standing_count_ ?a_Simulator_max_standing ?i_Simulator_max_standing ?l_Simulator_max_standing ?c_Simulator_max_standing_ ?k_Simulator_max_standing_ ?a_Simulator_first_standing ?i_Simulator_first_standing ?l_Simulator_first_standing ?c_Simulator_first_standing_ ?k_Simulator_first_standing_ ?a_Simulator_quiet_if_stand_up ?i_Simulator_quiet_if_stand_up ?l_Simulator_quiet_if_stand_up ?c_Simulator_quiet_if_stand_up_ ?k_Simulator_quiet_if_stand_up_ ?a_Simulator_get_state ?i_Simulator_get_state ?l_Simulator_get_state ?c_Simulator_get_state_ ?k_Simulator_get_state_ ?a_answer_change ?l_answer_change ?c_answer_change_ ?k_answer_change_ ?a_answer_query ?l_answer_query ?c_answer_query_ ?k_answer_query_ ?a_Session_init ?i_Session_init ?l_Session_init ?c_Session_init_ ?k_Session_init_ ?a_Session_answer ?i_Session_answer ?l_Session_answer ?c_Session_answer_ ?k_Session_answer_ ?a_Session_execute ?i_Session_execute ?l_Session_execute ?c_Session_execute_ ?k_Session_execute_ ?a_Session_create ?i_Session_create ?l_Session_create ?c_Session_create_ ?k_Session_create_ ?a_answers ?l_answers ?c_answers_ ?k_answers_ ?x_Refusal ?nc_Refusal ?sa_Refusal ?ga_Refusal ?gg_Refusal ?ex_Refusal ?ty_Refusal ?kc_Refusal ?hd_Refusal ?is_Refusal ?sr_Refusal ?x_NoSimulator ?nc_NoSimulator ?sa_NoSimulator ?ga_NoSimulator ?gg_NoSimulator ?ex_NoSimulator ?ty_NoSimulator ?kc_NoSimulator ?hd_NoSimulator ?is_NoSimulator ?sr_NoSimulator ?x_NoSection ?nc_NoSection ?sa_NoSection ?ga_NoSection ?gg_NoSection ?ex_NoSection ?ty_NoSection ?kc_NoSection ?hd_NoSection ?is_NoSection ?sr_NoSection ?x_NotSeated ?nc_NotSeated ?sa_NotSeated ?ga_NotSeated ?gg_NotSeated ?ex_NotSeated ?ty_NotSeated ?kc_NotSeated ?hd_NotSeated ?is_NotSeated ?sr_NotSeated ?x_OutOfRange ?nc_OutOfRange ?sa_OutOfRange ?ga_OutOfRange ?gg_OutOfRange ?ex_OutOfRange ?ty_OutOfRange ?kc_OutOfRange ?hd_OutOfRange ?is_OutOfRange ?sr_OutOfRange ?x_NeverHappens ?nc_NeverHappens ?sa_NeverHappens ?ga_NeverHappens ?gg_NeverHappens ?ex_NeverHappens ?ty_NeverHappens ?kc_NeverHappens ?hd_NeverHappens ?is_NeverHappens ?sr_NeverHappens ?pg_Simulator ?hd_Simulator ?po_Simulator ?sa_Simulator ?mk_Simulator ?kc_Simulator ?na_Simulator_states ?na_Simulator_time ?pg_Session ?hd_Session ?po_Session ?sa_Session ?mk_Session ?kc_Session ?na_Session_simulator ?rd ?rg ?ro
    (case n_len => k_is)
    (case n_Exception => k_is)
    (case n_range => k_is)
    (case n_list => k_is)
    (case n_enumerate => k_is)
    (case n_max => k_is)
    (case n_sum => k_is)
    (case v_CREATE => k_is)
    (case v_SET_SECTION => k_is)
    (case v_SET_ALL => k_is)
    (case v_STAND_UP => k_is)
    (case v_START_WAVE => k_is)
    (case v_STEP => k_is)
    (case v_ADVANCE => k_is)
    (case v_ROTATE => k_is)
    (case v_MIRROR => k_is)
    (case v_SIT_DOWN => k_is)
    (case v_GET_RING => k_is)
    (case v_GET_SECTION => k_is)
    (case v_RING_AFTER => k_is)
    (case v_WINDING_NUMBER => k_is)
    (case v_STEPS_UNTIL_QUIET => k_is)
    (case v_CYCLE => k_is)
    (case v_FORWARD_WAVES => k_is)
    (case v_BACKWARD_WAVES => k_is)
    (case v_STANDING_COUNT => k_is)
    (case v_MAX_STANDING => k_is)
    (case v_FIRST_STANDING => k_is)
    (case v_QUIET_IF_STAND_UP => k_is)
    (case v_ARGUMENT_COUNTS => k_is)
    (case u_ARGUMENT_COUNTS => k_is)
    (case v_SEATED => k_is)
    (case v_STANDING => k_is)
    (case v_RESTING => k_is)
    (case v_MOST_STEPS_AHEAD => k_is)
    (case v_TOWARDS_NEXT => k_is)
    (case v_TOWARDS_PREVIOUS => k_is)
    (case v_MOST_STEPS => k_is)
    (case v_GREATEST_DISTANCE => k_is)
    (case v_FEWEST_SECTIONS => k_is)
    (case v_MOST_SECTIONS => k_is)
    (case g_Refusal => k_is)
    (case g_NoSimulator => k_is)
    (case g_NoSection => k_is)
    (case g_NotSeated => k_is)
    (case g_OutOfRange => k_is)
    (case g_NeverHappens => k_is)
    (case g_Simulator => k_is)
    (case g_Session => k_is)
    (case a_split_calls => k_is)
    (case l_split_calls => k_is)
    (case c_split_calls_ => k_is)
    (case k_split_calls_ => k_is)
    (case a_Refusal_init => k_is)
    (case i_Refusal_init => k_is)
    (case ti_Refusal_init => k_is)
    (case l_Refusal_init => k_is)
    (case c_Refusal_init_ => k_is)
    (case k_Refusal_init_ => k_is)
    (case a_NoSimulator_init => k_is)
    (case i_NoSimulator_init => k_is)
    (case ti_NoSimulator_init => k_is)
    (case l_NoSimulator_init => k_is)
    (case c_NoSimulator_init_ => k_is)
    (case k_NoSimulator_init_ => k_is)
    (case a_NoSection_init => k_is)
    (case i_NoSection_init => k_is)
    (case ti_NoSection_init => k_is)
    (case l_NoSection_init => k_is)
    (case c_NoSection_init_ => k_is)
    (case k_NoSection_init_ => k_is)
    (case a_NotSeated_init => k_is)
    (case i_NotSeated_init => k_is)
    (case ti_NotSeated_init => k_is)
    (case l_NotSeated_init => k_is)
    (case c_NotSeated_init_ => k_is)
    (case k_NotSeated_init_ => k_is)
    (case a_OutOfRange_init => k_is)
    (case i_OutOfRange_init => k_is)
    (case ti_OutOfRange_init => k_is)
    (case l_OutOfRange_init => k_is)
    (case c_OutOfRange_init_ => k_is)
    (case k_OutOfRange_init_ => k_is)
    (case a_NeverHappens_init => k_is)
    (case i_NeverHappens_init => k_is)
    (case ti_NeverHappens_init => k_is)
    (case l_NeverHappens_init => k_is)
    (case c_NeverHappens_init_ => k_is)
    (case k_NeverHappens_init_ => k_is)
    (case a_next_section => k_is)
    (case l_next_section => k_is)
    (case c_next_section_ => k_is)
    (case k_next_section_ => k_is)
    (case a_previous_section => k_is)
    (case l_previous_section => k_is)
    (case c_previous_section_ => k_is)
    (case k_previous_section_ => k_is)
    (case a_standing_in => k_is)
    (case l_standing_in => k_is)
    (case c_standing_in_ => k_is)
    (case k_standing_in_ => k_is)
    (case a_section_after_step => k_is)
    (case l_section_after_step => k_is)
    (case c_section_after_step_ => k_is)
    (case k_section_after_step_ => k_is)
    (case a_after_step => k_is)
    (case l_after_step => k_is)
    (case c_after_step_ => k_is)
    (case k_after_step_ => k_is)
    (case a_after_steps => k_is)
    (case l_after_steps => k_is)
    (case c_after_steps_ => k_is)
    (case k_after_steps_ => k_is)
    (case a_rotated => k_is)
    (case l_rotated => k_is)
    (case c_rotated_ => k_is)
    (case k_rotated_ => k_is)
    (case a_mirrored => k_is)
    (case l_mirrored => k_is)
    (case c_mirrored_ => k_is)
    (case k_mirrored_ => k_is)
    (case a_rings_until_repeat => k_is)
    (case l_rings_until_repeat => k_is)
    (case c_rings_until_repeat_ => k_is)
    (case k_rings_until_repeat_ => k_is)
    (case a_steps_to_quiet => k_is)
    (case l_steps_to_quiet => k_is)
    (case c_steps_to_quiet_ => k_is)
    (case k_steps_to_quiet_ => k_is)
    (case a_steps_to_standing => k_is)
    (case l_steps_to_standing => k_is)
    (case c_steps_to_standing_ => k_is)
    (case k_steps_to_standing_ => k_is)
    (case a_cycle_of => k_is)
    (case l_cycle_of => k_is)
    (case c_cycle_of_ => k_is)
    (case k_cycle_of_ => k_is)
    (case a_most_standing => k_is)
    (case l_most_standing => k_is)
    (case c_most_standing_ => k_is)
    (case k_most_standing_ => k_is)
    (case a_phase_difference => k_is)
    (case l_phase_difference => k_is)
    (case c_phase_difference_ => k_is)
    (case k_phase_difference_ => k_is)
    (case a_winding_of => k_is)
    (case l_winding_of => k_is)
    (case c_winding_of_ => k_is)
    (case k_winding_of_ => k_is)
    (case a_is_wave => k_is)
    (case l_is_wave => k_is)
    (case c_is_wave_ => k_is)
    (case k_is_wave_ => k_is)
    (case a_is_forward_wave => k_is)
    (case l_is_forward_wave => k_is)
    (case c_is_forward_wave_ => k_is)
    (case k_is_forward_wave_ => k_is)
    (case a_is_backward_wave => k_is)
    (case l_is_backward_wave => k_is)
    (case c_is_backward_wave_ => k_is)
    (case k_is_backward_wave_ => k_is)
    (case a_forward_waves_in => k_is)
    (case l_forward_waves_in => k_is)
    (case c_forward_waves_in_ => k_is)
    (case k_forward_waves_in_ => k_is)
    (case a_backward_waves_in => k_is)
    (case l_backward_waves_in => k_is)
    (case c_backward_waves_in_ => k_is)
    (case k_backward_waves_in_ => k_is)
    (case a_require_at_most => k_is)
    (case l_require_at_most => k_is)
    (case c_require_at_most_ => k_is)
    (case k_require_at_most_ => k_is)
    (case a_Simulator_init => k_is)
    (case i_Simulator_init => k_is)
    (case l_Simulator_init => k_is)
    (case c_Simulator_init_ => k_is)
    (case k_Simulator_init_ => k_is)
    (case a_Simulator_require_section => k_is)
    (case i_Simulator_require_section => k_is)
    (case l_Simulator_require_section => k_is)
    (case c_Simulator_require_section_ => k_is)
    (case k_Simulator_require_section_ => k_is)
    (case a_Simulator_require_seated => k_is)
    (case i_Simulator_require_seated => k_is)
    (case l_Simulator_require_seated => k_is)
    (case c_Simulator_require_seated_ => k_is)
    (case k_Simulator_require_seated_ => k_is)
    (case a_Simulator_set_section => k_is)
    (case i_Simulator_set_section => k_is)
    (case l_Simulator_set_section => k_is)
    (case c_Simulator_set_section_ => k_is)
    (case k_Simulator_set_section_ => k_is)
    (case a_Simulator_set_all => k_is)
    (case i_Simulator_set_all => k_is)
    (case l_Simulator_set_all => k_is)
    (case c_Simulator_set_all_ => k_is)
    (case k_Simulator_set_all_ => k_is)
    (case a_Simulator_stand_up => k_is)
    (case i_Simulator_stand_up => k_is)
    (case l_Simulator_stand_up => k_is)
    (case c_Simulator_stand_up_ => k_is)
    (case k_Simulator_stand_up_ => k_is)
    (case a_Simulator_start_wave => k_is)
    (case i_Simulator_start_wave => k_is)
    (case l_Simulator_start_wave => k_is)
    (case c_Simulator_start_wave_ => k_is)
    (case k_Simulator_start_wave_ => k_is)
    (case a_Simulator_step => k_is)
    (case i_Simulator_step => k_is)
    (case l_Simulator_step => k_is)
    (case c_Simulator_step_ => k_is)
    (case k_Simulator_step_ => k_is)
    (case a_Simulator_advance => k_is)
    (case i_Simulator_advance => k_is)
    (case l_Simulator_advance => k_is)
    (case c_Simulator_advance_ => k_is)
    (case k_Simulator_advance_ => k_is)
    (case a_Simulator_rotate => k_is)
    (case i_Simulator_rotate => k_is)
    (case l_Simulator_rotate => k_is)
    (case c_Simulator_rotate_ => k_is)
    (case k_Simulator_rotate_ => k_is)
    (case a_Simulator_mirror => k_is)
    (case i_Simulator_mirror => k_is)
    (case l_Simulator_mirror => k_is)
    (case c_Simulator_mirror_ => k_is)
    (case k_Simulator_mirror_ => k_is)
    (case a_Simulator_sit_down => k_is)
    (case i_Simulator_sit_down => k_is)
    (case l_Simulator_sit_down => k_is)
    (case c_Simulator_sit_down_ => k_is)
    (case k_Simulator_sit_down_ => k_is)
    (case a_Simulator_get_ring => k_is)
    (case i_Simulator_get_ring => k_is)
    (case l_Simulator_get_ring => k_is)
    (case c_Simulator_get_ring_ => k_is)
    (case k_Simulator_get_ring_ => k_is)
    (case a_Simulator_get_section => k_is)
    (case i_Simulator_get_section => k_is)
    (case l_Simulator_get_section => k_is)
    (case c_Simulator_get_section_ => k_is)
    (case k_Simulator_get_section_ => k_is)
    (case a_Simulator_ring_after => k_is)
    (case i_Simulator_ring_after => k_is)
    (case l_Simulator_ring_after => k_is)
    (case c_Simulator_ring_after_ => k_is)
    (case k_Simulator_ring_after_ => k_is)
    (case a_Simulator_winding_number => k_is)
    (case i_Simulator_winding_number => k_is)
    (case l_Simulator_winding_number => k_is)
    (case c_Simulator_winding_number_ => k_is)
    (case k_Simulator_winding_number_ => k_is)
    (case a_Simulator_steps_until_quiet => k_is)
    (case i_Simulator_steps_until_quiet => k_is)
    (case l_Simulator_steps_until_quiet => k_is)
    (case c_Simulator_steps_until_quiet_ => k_is)
    (case k_Simulator_steps_until_quiet_ => k_is)
    (case a_Simulator_cycle => k_is)
    (case i_Simulator_cycle => k_is)
    (case l_Simulator_cycle => k_is)
    (case c_Simulator_cycle_ => k_is)
    (case k_Simulator_cycle_ => k_is)
    (case a_Simulator_forward_waves => k_is)
    (case i_Simulator_forward_waves => k_is)
    (case l_Simulator_forward_waves => k_is)
    (case c_Simulator_forward_waves_ => k_is)
    (case k_Simulator_forward_waves_ => k_is)
    (case a_Simulator_backward_waves => k_is)
    (case i_Simulator_backward_waves => k_is)
    (case l_Simulator_backward_waves => k_is)
    (case c_Simulator_backward_waves_ => k_is)
    (case k_Simulator_backward_waves_ => k_is)
    (case a_Simulator_standing_count => k_is)
    (case i_Simulator_standing_count => k_is)
    (case l_Simulator_standing_count => k_is)
    (case c_Simulator_standing_count_ => k_is)
    (case k_Simulator_standing_count_ => k_is)
    (case a_Simulator_max_standing => k_is)
    (case i_Simulator_max_standing => k_is)
    (case l_Simulator_max_standing => k_is)
    (case c_Simulator_max_standing_ => k_is)
    (case k_Simulator_max_standing_ => k_is)
    (case a_Simulator_first_standing => k_is)
    (case i_Simulator_first_standing => k_is)
    (case l_Simulator_first_standing => k_is)
    (case c_Simulator_first_standing_ => k_is)
    (case k_Simulator_first_standing_ => k_is)
    (case a_Simulator_quiet_if_stand_up => k_is)
    (case i_Simulator_quiet_if_stand_up => k_is)
    (case l_Simulator_quiet_if_stand_up => k_is)
    (case c_Simulator_quiet_if_stand_up_ => k_is)
    (case k_Simulator_quiet_if_stand_up_ => k_is)
    (case a_Simulator_get_state => k_is)
    (case i_Simulator_get_state => k_is)
    (case l_Simulator_get_state => k_is)
    (case c_Simulator_get_state_ => k_is)
    (case k_Simulator_get_state_ => k_is)
    (case a_answer_change => k_is)
    (case l_answer_change => k_is)
    (case c_answer_change_ => k_is)
    (case k_answer_change_ => k_is)
    (case a_answer_query => k_is)
    (case l_answer_query => k_is)
    (case c_answer_query_ => k_is)
    (case k_answer_query_ => k_is)
    (case a_Session_init => k_is)
    (case i_Session_init => k_is)
    (case l_Session_init => k_is)
    (case c_Session_init_ => k_is)
    (case k_Session_init_ => k_is)
    (case a_Session_answer => k_is)
    (case i_Session_answer => k_is)
    (case l_Session_answer => k_is)
    (case c_Session_answer_ => k_is)
    (case k_Session_answer_ => k_is)
    (case a_Session_execute => k_is)
    (case i_Session_execute => k_is)
    (case l_Session_execute => k_is)
    (case c_Session_execute_ => k_is)
    (case k_Session_execute_ => k_is)
    (case a_Session_create => k_is)
    (case i_Session_create => k_is)
    (case l_Session_create => k_is)
    (case c_Session_create_ => k_is)
    (case k_Session_create_ => k_is)
    (case a_answers => k_is)
    (case l_answers => k_is)
    (case c_answers_ => k_is)
    (case k_answers_ => k_is)
    (case x_Refusal => k_is)
    (case nc_Refusal => k_is)
    (case sa_Refusal => k_is)
    (case ga_Refusal => k_is)
    (case gg_Refusal => k_is)
    (case ex_Refusal => k_is)
    (case ty_Refusal => k_is)
    (case kc_Refusal => k_is)
    (case hd_Refusal => k_is)
    (case is_Refusal => k_is)
    (case sr_Refusal => first | rfl | k_is)
    (case x_NoSimulator => k_is)
    (case nc_NoSimulator => k_is)
    (case sa_NoSimulator => k_is)
    (case ga_NoSimulator => k_is)
    (case gg_NoSimulator => k_is)
    (case ex_NoSimulator => k_is)
    (case ty_NoSimulator => k_is)
    (case kc_NoSimulator => k_is)
    (case hd_NoSimulator => k_is)
    (case is_NoSimulator => k_is)
    (case sr_NoSimulator => first | rfl | k_is)
    (case x_NoSection => k_is)
    (case nc_NoSection => k_is)
    (case sa_NoSection => k_is)
    (case ga_NoSection => k_is)
    (case gg_NoSection => k_is)
    (case ex_NoSection => k_is)
    (case ty_NoSection => k_is)
    (case kc_NoSection => k_is)
    (case hd_NoSection => k_is)
    (case is_NoSection => k_is)
    (case sr_NoSection => first | rfl | k_is)
    (case x_NotSeated => k_is)
    (case nc_NotSeated => k_is)
    (case sa_NotSeated => k_is)
    (case ga_NotSeated => k_is)
    (case gg_NotSeated => k_is)
    (case ex_NotSeated => k_is)
    (case ty_NotSeated => k_is)
    (case kc_NotSeated => k_is)
    (case hd_NotSeated => k_is)
    (case is_NotSeated => k_is)
    (case sr_NotSeated => first | rfl | k_is)
    (case x_OutOfRange => k_is)
    (case nc_OutOfRange => k_is)
    (case sa_OutOfRange => k_is)
    (case ga_OutOfRange => k_is)
    (case gg_OutOfRange => k_is)
    (case ex_OutOfRange => k_is)
    (case ty_OutOfRange => k_is)
    (case kc_OutOfRange => k_is)
    (case hd_OutOfRange => k_is)
    (case is_OutOfRange => k_is)
    (case sr_OutOfRange => first | rfl | k_is)
    (case x_NeverHappens => k_is)
    (case nc_NeverHappens => k_is)
    (case sa_NeverHappens => k_is)
    (case ga_NeverHappens => k_is)
    (case gg_NeverHappens => k_is)
    (case ex_NeverHappens => k_is)
    (case ty_NeverHappens => k_is)
    (case kc_NeverHappens => k_is)
    (case hd_NeverHappens => k_is)
    (case is_NeverHappens => k_is)
    (case sr_NeverHappens => first | rfl | k_is)
    (case pg_Simulator => k_is)
    (case hd_Simulator => k_is)
    (case po_Simulator => k_is)
    (case sa_Simulator => k_is)
    (case mk_Simulator => k_is)
    (case kc_Simulator => k_is)
    (case na_Simulator_states => k_is)
    (case na_Simulator_time => k_is)
    (case pg_Session => k_is)
    (case hd_Session => k_is)
    (case po_Session => k_is)
    (case sa_Session => k_is)
    (case mk_Session => k_is)
    (case kc_Session => k_is)
    (case na_Session_simulator => k_is)
    (case rd => k_is)
    (case rg => k_is)
    (case ro => k_is)
  case S =>
    intro K H xs a hO hwi hask hx
    cases hx with
    | cons h1 h2 =>
      cases h2
      cases h1 with
      | lst hs ha =>
        have e := L2.ints_dw a.1 _ ha
        subst e
        exact ⟨_, a.1, rfl, hs, hask, fun H' p hp => .lst (L2.SqL.of hp) (L2.dw_ints _)⟩
