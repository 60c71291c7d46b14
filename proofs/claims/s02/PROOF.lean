import PyProof.Rows.All
import Wide.All
import OpenK.AllK
import Wide.FinOn
import PyProof.EqAt
import PyProof.EqKinds
import PyProof.TupleCall
import Open.SpecLaws
import KE.OsGo
import HandS.ForSpec
import HandS.ExcInit
import HandS.ClsMeth
import HandS.HotCalls
import HandS.ExcField
import HandS.ForMost
import HandS.StrMore
import HandS.Walk
import KE.GoesEnum
import HandS.Iter
import HandS.Comp
import HandS.HeadHook3
import PySem.Challenge.RW_seamdrafts_s02_print_of
set_option Elab.async false
set_option linter.all false
set_option maxRecDepth 100000
set_option maxHeartbeats 4000000
/-! # Errors of the program: classes over Exception, one above the other, each with an own __init__ that calls the one above -/
namespace SDX
open PySem PySem.W PySem.Calls PyProof.Rows PySem.HandSPX
open Builtin Builtin.ObjectAttr
abbrev exTail : List Value := [.type "Exception", .type "BaseException", .type "object"]
/-- own classes, then Exception's mro -/
def refsEx : List Value → Bool
  | .ref _ :: r => refsEx r
  | l => l == exTail
theorem refsEx_cases : ∀ l : List Value, refsEx l = true → (∃ c r, l = .ref c :: r ∧ refsEx r = true) ∨ l = exTail
  | [], e => .inr (beq_iff_eq.mp e)
  | .ref c :: r, e => .inl ⟨c, r, rfl, e⟩
  | .none :: _, e => .inr (beq_iff_eq.mp e)
  | .ellipsis :: _, e => .inr (beq_iff_eq.mp e)
  | .notImplemented :: _, e => .inr (beq_iff_eq.mp e)
  | .bool _ :: _, e => .inr (beq_iff_eq.mp e)
  | .int _ _ :: _, e => .inr (beq_iff_eq.mp e)
  | .float _ _ :: _, e => .inr (beq_iff_eq.mp e)
  | .str _ _ :: _, e => .inr (beq_iff_eq.mp e)
  | .bytes _ _ :: _, e => .inr (beq_iff_eq.mp e)
  | .type _ :: _, e => .inr (beq_iff_eq.mp e)
  | .builtin _ :: _, e => .inr (beq_iff_eq.mp e)
theorem refsEx_pass (self : Value) : ∀ l : List Value, refsEx l = true → refuseLoop self "__setattr__" l = pure () := by
  intro l
  induction l with
  | nil => intro e; exact absurd e (by decide)
  | cons a r ih =>
    intro e
    rcases refsEx_cases (a :: r) e with ⟨c, r', q, h⟩ | q
    · obtain ⟨rfl, rfl⟩ := List.cons.inj q
      rw [refuseLoop_ref]; exact ih h
    · rw [q]; exact F.store_Exception.passes self
theorem refsEx_contains (X : String) : ∀ l : List Value, refsEx l = true → l.contains (.type X) = exTail.contains (.type X) := by
  intro l
  induction l with
  | nil => intro e; exact absurd e (by decide)
  | cons a r ih =>
    intro e
    rcases refsEx_cases (a :: r) e with ⟨c, r', q, h⟩ | q
    · obtain ⟨rfl, rfl⟩ := List.cons.inj q
      rw [List.contains_cons, ih h]; rfl
    · rw [q]
theorem refsEx_ne {l : List Value} (e : refsEx l = true) : l.isEmpty = false := by
  cases l with
  | nil => exact absurd e (by decide)
  | cons _ _ => rfl

section
variable {prog : Program} {w : World} {A : Around} {E : Value → Shared → Prop} {R : Result → Shared → Prop} {hp : Heap} {g : Array GenState} {d : Drawn} {t : Nat} {os : OsState}
theorem exc_osa {K : W.Frag} {name : Str} {tk : Tok} {v : Value} {x C : Addr} {fv : Array Value} {cd : ClassData}
    (X : K.In hp) (hx : hp.get? x = some { cls := .ref C, data := .fields fv }) (hcd : W.clsIn K C = some cd) (hm : refsEx cd.mro = true) (hh : cd.hasDict = true) (ha : W.findIn K (.ref C) name = some none)
    (hq : ∀ h' tk' dx, (∀ b o, b ≠ x → hp.get? b = some o → h'.get? b = some o) → hp.objs.size ≤ dx → dx ≠ x → h'.get? x = some { cls := .ref C, dict := some dx, data := .fields fv } →
      h'.Ns1 dx (fun y => if y = name then some v else none) → R (.ok (.ret .none)) ⟨h', g, d, tk', os⟩) :
    codeAny (model prog w) A (.call (.builtin "object.__setattr__") ⟨[.ref x, .str name tk, v], []⟩) R ⟨hp, g, d, t, os⟩ := by
  have I : W.InstAt hp x { cls := .ref C, data := .fields fv } C none := ⟨hx, rfl, rfl, trivial⟩
  have SF := F.store_object
  have ne := refsEx_ne hm
  have hob : cd.mro.contains (.type "object") = true := (refsEx_contains "object" _ hm).trans (by decide +kernel)
  have hxs : x ≠ hp.objs.size := Nat.ne_of_lt (Heap.lt_size hx)
  have sub : W.Looks (model prog w) hp (isInstance (.ref x) (.type "object")) true := I.type.andThen (W.looks_mroIn X (by unfold W.mroIn; rw [hcd, Option.bind_some, if_neg (by rw [ne]; decide), hob]))
  refine codeAny_call_builtin SF.slot.plain SF.entry (@W.check_slot (model prog w) _ _ ⟨hp, g, d, t, os⟩ "object.__setattr__" "object" "__setattr__" (.ref x) [.str name tk, v] [] _ SF.kind SF.split sub (SF.args (.ref x) (.str name tk) v) ?_)
  have hmr : W.Looks (model prog w) hp (mroOf (.ref C)) cd.mro := (W.looks_clsIn X hcd).andThen .now
  have L3 : W.Looks (model prog w) hp (storeTaker? none) none := .now
  have hcls : W.Looks (model prog w) hp (classData C) cd := W.looks_clsIn X hcd
  rw [W.osa_eq, refuse_eq]
  refine wpAny_bind (wpAny_bind (I.type.at (wpAny_bind (hmr.at ?_))))
  rw [refsEx_pass _ _ hm]
  refine wpAny_pure (wpAny_bind (I.type.at (wpAny_bind ((W.looks_findIn X ha).at (wpAny_bind (L3.at ?_))))))
  show wpAny _ _ (storeInOwnDict (.ref x) (.ref C) (.str name tk) name v false) _ _ _
  obtain ⟨nm, bs, mro, ns, qn, hd, sn, sb, ab, col, del⟩ := cd
  dsimp only at hh
  subst hh
  unfold storeInOwnDict ownDictForStores
  repeat (first | with_reducible refine store_in_new ?_ ?_ | with_reducible refine wpAny_loadPart_at hx ?_ | with_reducible refine hcls.at ?_ | wp_step)
  · exact ⟨_, #[], _, (Heap.get?_update_ne _ _ _ _ hxs.symm).trans (Heap.get?_push_at rfl rfl), rfl, fun e he => absurd he (by simp), fun _ => rfl⟩
  · intro h' tk' hn' hs
    have hx₁ : (hp.push { cls := .type "dict", data := .dict #[] }).get? x = some { cls := .ref C, data := .fields fv } := Heap.get?_push_of_some _ hx
    refine hq h' tk' hp.objs.size (fun b o hb ho => ?_) (Nat.le_refl _) hxs.symm ?_ hn'
    · exact (hs.2 b (Nat.ne_of_lt (Heap.lt_size ho))).trans ((Heap.get?_update_ne _ _ _ _ hb).trans (Heap.get?_push_of_some _ ho))
    · exact (hs.2 x hxs).trans (Heap.get?_update_self _ hx₁ rfl)
/-- a further field of an exception that has its dict -/
theorem osa_old {K : W.Frag} {name : Str} {tk : Tok} {v : Value} {x C dx : Addr} {fv : Array Value} {cd : ClassData} {m0 : Str → Option Value} {nl : List Str}
    (X : K.In hp) (hx : hp.get? x = some { cls := .ref C, dict := some dx, data := .fields fv }) (hns : hp.Ns1 dx m0) (hw : Within m0 nl) (hz : nl.length ≤ 1000) (hcd : W.clsIn K C = some cd) (hm : refsEx cd.mro = true) (hh : cd.hasDict = true)
    (ha : W.findIn K (.ref C) name = some none)
    (hq : ∀ h' tk', (∀ b o, b ≠ dx → hp.get? b = some o → h'.get? b = some o) → h'.Ns1 dx (fun y => if y = name then some v else m0 y) → R (.ok (.ret .none)) ⟨h', g, d, tk', os⟩) :
    codeAny (model prog w) A (.call (.builtin "object.__setattr__") ⟨[.ref x, .str name tk, v], []⟩) R ⟨hp, g, d, t, os⟩ := by
  obtain ⟨oD, esD, epD, hoD, hdD, _⟩ := hns.count hw
  have I : W.InstAt hp x { cls := .ref C, dict := some dx, data := .fields fv } C (some oD) := ⟨hx, rfl, rfl, hoD⟩
  have SF := F.store_object
  have ne := refsEx_ne hm
  have hob : cd.mro.contains (.type "object") = true := (refsEx_contains "object" _ hm).trans (by decide +kernel)
  have sub : W.Looks (model prog w) hp (isInstance (.ref x) (.type "object")) true := I.type.andThen (W.looks_mroIn X (by unfold W.mroIn; rw [hcd, Option.bind_some, if_neg (by rw [ne]; decide), hob]))
  refine codeAny_call_builtin SF.slot.plain SF.entry (@W.check_slot (model prog w) _ _ ⟨hp, g, d, t, os⟩ "object.__setattr__" "object" "__setattr__" (.ref x) [.str name tk, v] [] _ SF.kind SF.split sub (SF.args (.ref x) (.str name tk) v) ?_)
  have hmr : W.Looks (model prog w) hp (mroOf (.ref C)) cd.mro := (W.looks_clsIn X hcd).andThen .now
  have L3 : W.Looks (model prog w) hp (storeTaker? none) none := .now
  have hcls : W.Looks (model prog w) hp (classData C) cd := W.looks_clsIn X hcd
  rw [W.osa_eq, refuse_eq]
  refine wpAny_bind (wpAny_bind (I.type.at (wpAny_bind (hmr.at ?_))))
  rw [refsEx_pass _ _ hm]
  refine wpAny_pure (wpAny_bind (I.type.at (wpAny_bind ((W.looks_findIn X ha).at (wpAny_bind (L3.at ?_))))))
  show wpAny _ _ (storeInOwnDict (.ref x) (.ref C) (.str name tk) name v false) _ _ _
  obtain ⟨nm, bs, mro, ns, qn, hd, sn, sb, ab, col, del⟩ := cd
  dsimp only at hh
  subst hh
  unfold storeInOwnDict ownDictForStores
  repeat (first | with_reducible refine PySem.OEX.store_in_old hns hw hz ?_ | with_reducible refine wpAny_loadPart_at hx ?_ | with_reducible refine hcls.at ?_ | wp_step)
  intro h' tk' hn' hs
  exact hq h' tk' (fun b o hb ho => (hs.2 b hb).trans ho) hn'
end
theorem typ_Ex : typeOf (.type "Exception") = pure (.type "type") := by kernel_rfl
end SDX

namespace SDX
open PySem PySem.Spec PyProof.Rows L2
/-- what the written part says of the class -/
structure ExC (K : PySem.W.Frag) (C : Addr) : Prop where
  cls : ∃ nm q N bs bm sn sub ab col dd k0 k1 k2 k3 k5, K.lookup C = some (excClassObj nm q C N bs bm true sn sub ab col dd k0 k1 k2 k3 k5 "Exception.__new__") ∧ refsEx bm = true
  sa : PySem.W.findIn K (.ref C) "__setattr__" = some (some (.builtin "object.__setattr__"))
  exC : PySem.W.subIn K (.ref C) (.type "BaseException") = some true
  tyC : PySem.W.typeIn K (.ref C) = some (.type "type")
  kC : PySem.W.keepIn K (.ref C) = true
section
variable {X : Cx} {pins : List (Addr × Obj)} {σ : L2.St} {H : Hp} {s : Shared} {a C dx : Addr} {f : Str} {y : V} {u : Value} {fs : List (Str × V)} {Q : Unit → Shared → Prop} {E : Value → Shared → Prop} {A : Around}
/-- self.f = y, the first one -/
theorem xst_new (T : ExC X.K C) (I : Inv X pins σ H s) (e : H a = some (exo a C none)) (hno : PySem.W.findIn X.K (.ref C) f = some none) (ry : RelV y u)
    (h : ∀ dx s', H dx = none → dx ≠ a → Inv X pins σ (upd (upd H dx (exd dx [(f, y)])) a (exo a C (some dx))) s' → Q () s') : wpAny (model X.prog X.w) A (setAttr (.ref a) f u) Q E s := by
  obtain ⟨nm, q, N, bs, bm, sn, sub, ab, col, dd, k0, k1, k2, k3, k5, hC, hbm⟩ := T.cls
  have hcl : PySem.W.clsIn X.K C = some { name := nm, bases := bs, mro := .ref C :: bm, ns := N, qualname := q, hasDict := true, slotNames := sn, subclasses := sub, abstract := ab, collection := col, hasDel := false } := by unfold PySem.W.clsIn; rw [hC] <;> rfl
  obtain ⟨t1, ho⟩ := exo_at I.hok e
  obtain ⟨hp, g, d, t, os⟩ := s
  refine PySem.W.set_plain I.kIn (ox := { cls := .ref C, dict := none, data := .fields #[.ref t1, .none, .none, .none, .bool false, .none] }) (od := none) ⟨ho, rfl, rfl, trivial⟩ T.sa ?_
  refine exc_osa I.kIn ho hcl (show refsEx (.ref C :: bm) = true from hbm) rfl hno (fun h' tk' dx k dn dne hx hn => ?_)
  have hnd : H dx = none := I.hok.fresh dn
  have nd : ∀ {b : Addr} {o : Obj}, hp.get? b = some o → b ≠ dx := fun {b o} q => Nat.ne_of_lt (Nat.lt_of_lt_of_le (Heap.lt_size q) dn)
  have na : ∀ {b : Addr}, H b = none → b ≠ a := fun {b} n z => by
    rw [z, e] at n
    cases n
  have Un1 : Un X.fs [] H (upd (upd H dx (exd dx [(f, y)])) a (exo a C (some dx))) hp h' := {
    keep := fun b o q n _ _ => k b o (na n) q
    slot := fun b o q n _ _ => ⟨o.slots, k b o (na n) q⟩
    free := fun b o q n _ => by rw [upd_ne (na n), upd_ne (nd q)]; exact n
    there := fun b o q _ => by
      by_cases hb : b = a
      · exact ⟨_, by rw [hb]; exact hx⟩
      · exact ⟨o, k b o hb q⟩
    tups := fun b xs q => by rw [upd_ne (at_ne e q exo_tup), upd_ne (ne_of_none q hnd)]; exact q
    frzs := fun b o v q => by rw [upd_ne (at_ne e q exo_frz), upd_ne (ne_of_none q hnd)]; exact q
    tbls := fun b ps q => ⟨#[], by rw [upd_ne (at_ne e q exo_tbl), upd_ne (ne_of_none q hnd), q]; simp⟩ }
  refine h dx _ hnd dne (I.un (t' := tk') Un1 fun b o q => ?_)
  by_cases hb : b = a
  · subst hb
    rw [upd_same] at q
    cases q
    exact exo_ok hx
  · rw [upd_ne hb] at q
    by_cases hd : b = dx
    · subst hd
      rw [upd_same] at q
      cases q
      exact exd_ok hn (relO_put (fs := []) ry fun g => True.intro)
    · rw [upd_ne hd] at q
      exact (I.hok b o q).stay (fun c v hc z => k c v (by
          rcases hc with hc | hc
          · rw [hc]
            exact hb
          · exact at_ne e hc exo_own) z)
        (fun c hc => by rw [upd_ne (at_ne e hc exo_own), upd_ne (ne_of_none hc hnd)]; exact hc) (fun c xs hc => by rw [upd_ne (at_ne e hc exo_tup), upd_ne (ne_of_none hc hnd)]; exact hc)
/-- self.f = y, a further one -/
theorem xst_old (T : ExC X.K C) (I : Inv X pins σ H s) (e : H a = some (exo a C (some dx))) (ed : H dx = some (exd dx fs)) (hl : fs.length ≤ 900) (hno : PySem.W.findIn X.K (.ref C) f = some none) (ry : RelV y u)
    (h : ∀ s', Inv X pins σ (upd H dx (exd dx ((f, y) :: fs))) s' → Q () s') : wpAny (model X.prog X.w) A (setAttr (.ref a) f u) Q E s := by
  obtain ⟨nm, q, N, bs, bm, sn, sub, ab, col, dd, k0, k1, k2, k3, k5, hC, hbm⟩ := T.cls
  have hcl : PySem.W.clsIn X.K C = some { name := nm, bases := bs, mro := .ref C :: bm, ns := N, qualname := q, hasDict := true, slotNames := sn, subclasses := sub, abstract := ab, collection := col, hasDel := false } := by unfold PySem.W.clsIn; rw [hC] <;> rfl
  obtain ⟨t1, ho⟩ := exo_at I.hok e
  obtain ⟨mA, hns, rel⟩ := exd_at I.hok ed
  have hw := within_of rel
  obtain ⟨hp, g, d, t, os⟩ := s
  obtain ⟨oD, _, _, hoD, _, _⟩ := hns.count hw
  refine PySem.W.set_plain I.kIn (ox := { cls := .ref C, dict := some dx, data := .fields #[.ref t1, .none, .none, .none, .bool false, .none] }) (od := some oD) ⟨ho, rfl, rfl, hoD⟩ T.sa ?_
  refine osa_old I.kIn ho hns hw (by rw [List.length_map]; omega) hcl (show refsEx (.ref C :: bm) = true from hbm) rfl hno (fun h' tk' k hn => ?_)
  have hd : ∃ o, h'.get? dx = some o := by
    obtain ⟨o, _, _, e', _⟩ := hn
    exact ⟨o, e'⟩
  exact h _ (I.write (t' := tk') (x := dx) (e := dx) (o := exd dx ((f, y) :: fs)) (by rw [ed]; exact True.intro) (.inl rfl) k hd (exd_ok hn (relO_put ry rel)))
/-- Exception.__init__(self, ..): nothing of it is told -/
theorem xinit_ok {us : List Value} {Q : Value → Shared → Prop} (T : ExC X.K C) (I : Inv X pins σ H s) (e : H a = some (exo a C none)) (hl : us.length ≤ sizeLine) (h : ∀ s', Inv X pins σ H s' → Q .none s') :
    wpAny (model X.prog X.w) A (call (.builtin "Exception.__init__") (.ref a :: us)) Q E s := by
  obtain ⟨nm, q, N, bs, bm, sn, sub, ab, col, dd, k0, k1, k2, k3, k5, hC, hbm⟩ := T.cls
  obtain ⟨t1, ho⟩ := exo_at I.hok e
  obtain ⟨hp, g, d, t, os⟩ := s
  refine wpAny_call (PySem.HandSPX.init_base F.excBase_Exception (fun Y => refsEx_contains Y bm hbm) (I.kIn _ _ hC) ho hl fun h' t2 k hx => ?_)
  have J := I.write (t' := t) (x := a) (e := a) (o := exo a C none) (by rw [e]; exact True.intro) (.inl rfl) k ⟨_, hx⟩ (exo_ok hx)
  have eu : upd H a (exo a C none) = H := by
    funext b
    by_cases hb : b = a
    · rw [hb, upd_same, e]
    · rw [upd_ne hb]
  rw [eu] at J
  exact h _ J
end

/-! ### readings and rules -/
/-- Exception.__init__(self, ..) -/
def tExI (K : PySem.W.Frag) (ta : TA) : TE := fun σ H Q => ta σ H fun vs H1 => ∃ (a C : Addr) (ws : List V), vs = .ref a :: ws ∧ ws.length ≤ 1000 ∧ ExC K C ∧ H1 a = some (exo a C none) ∧ Q .non H1
/-- self.f = e -/
def tXst (K : PySem.W.Frag) (f : Str) (to te : TE) : TS := fun D σ H => te σ H fun y H1 => to σ H1 fun x H2 => ∃ a C : Addr, x = .ref a ∧ ExC K C ∧ PySem.W.findIn K (.ref C) f = some none ∧
  ((H2 a = some (exo a C none) ∧ ∀ dx, H2 dx = none → dx ≠ a → D.nx σ (upd (upd H2 dx (exd dx [(f, y)])) a (exo a C (some dx)))) ∨
    ∃ (dx : Addr) (fs : List (Str × V)), H2 a = some (exo a C (some dx)) ∧ H2 dx = some (exd dx fs) ∧ fs.length ≤ 900 ∧ D.nx σ (upd H2 dx (exd dx ((f, y) :: fs))))
/-- C(e, ..), C's own __init__ keeping sp -/
def tMkX (C : Addr) (sp : Sp) (dvs : List V) (ta : TA) : L2.St → Hp → XK → Prop := fun σ H Q => ta σ H fun vs H1 => vs.length ≤ 1000 ∧ ∀ a, H1 a = none → sp (.ref a :: (vs ++ dvs)) (upd H1 a (exo a C none))
  (fun v H2 => v = .non ∧ ∃ (d : Addr) (fs : List (Str × V)), H2 a = some (exo a C (some d)) ∧ H2 d = some (exd d fs) ∧ H1 d = none ∧ Q (.ref C) (some d) (upd (del H2 a) d (.xd fs))) (fun _ _ _ => False)
section
variable {X : Cx} {o e : Expr} {es : List Expr} {to te : TE} {ta : TA} {f : Str} {p p' p1 p2 pos : Pos}
theorem pe_exinit {pl : Sem Bool} (hg : Gl X "Exception") (hm : X.mg "Exception" = none) (vV : PySem.W.findCls X.K (.type "Exception") (.type "type") "__init__" = some (.val (.builtin "Exception.__init__"))) (ha : PA X (e :: es) ta)
    (hc : eval (.Call (.Attribute (.Name "Exception" p1) "__init__" p2) (e :: es) [] pos) X.env = (do
      let ov ← eval (.Name "Exception" p1) X.env
      standAt p2.atName
      let (f, first) ← holding [ov] (getMethod ov "__init__" pl)
      callWith pos f first (backTo pos (starEach (e :: es) X.env)) (backToKw pos (keywordEach [] X.env))) := by rfl)
    (he : starEach (e :: es) X.env = (false, eval e X.env) :: starEach es X.env := by rfl) (hpl : (backTo pos (starEach es X.env)).any (·.1) = false := by rfl) :
    PE X (.Call (.Attribute (.Name "Exception" p1) "__init__" p2) (e :: es) [] pos) (tExI X.K ta) := by
  refine ⟨fun pins s σ H Q I h => ?_⟩
  refine PySem.W.methodCall_KW (ld_blt I hg hm PyProof.Rows.Boot.«Exception» ?_ (by decide) (by decide)) hc
  obtain ⟨m, fr⟩ := I.fr
  refine PySem.W.method_type fr I.ok.mod.kin typ_Ex (by decide +kernel) vV (by decide +kernel) ?_
  show wpAny _ _ (callWith pos (Value.builtin "Exception.__init__") [] (backTo pos (starEach (e :: es) X.env)) []) _ _ _
  refine PyProof.Rows.callWith_method1 (thn (ha.run pos pins _ σ H _ (I.tok _) h) fun us s1 ⟨vs, H1, I1, r1, a, C, ws, ev, hl, T, ea, q⟩ => ?_) he hpl
  subst ev
  cases r1 with
  | @cons _ u0 _ ur ra rw' =>
    obtain rfl : u0 = Value.ref a := ra
    have hlen : ur.length ≤ sizeLine := by
      rw [← Paired.length rw', sizeLine_eq]
      omega
    exact xinit_ok T I1 ea hlen fun s' J => ⟨.non, H1, J, rfl, q⟩
theorem ps_xst (ho : PE X o to) (he : PE X e te) (hs : swapsWith e (some (.Attribute o f p')) pos.line X.env = pure false := by rfl) : PS X (.Assign [.Attribute o f p'] e pos) (tXst X.K f to te) := by
  refine ⟨fun pins s σ H D I h => ?_⟩
  refine plainObj_wpAny_Assign_Attribute (thn (he.run pins s σ H _ I h) fun v s1 ⟨y, H1, I1, r1, q1⟩ => thn (ho.run pins s1 σ H1 _ I1 q1) fun u s2 ⟨x, H2, I2, r2, a, C, ex, T, hno, q⟩ => ?_) hs
  subst ex
  obtain rfl : u = Value.ref a := r2
  rcases q with ⟨ea, q⟩ | ⟨dx, fs, ea, ed, hl, q⟩
  · exact xst_new T I2 ea hno r1 fun dx s' n ne J => ⟨σ, _, J, q dx n ne⟩
  · exact xst_old T I2 ea ed hl hno r1 fun s' J => ⟨σ, _, J, q⟩
theorem pmk_ex {CX : CXT} {x : Str} {C fI : Addr} {k : Nat} {fd : FuncData} {ps : List Str} {sp : Sp} {ds : List Value} {dvs : List V} (T : ExC X.K C) (iC : PySem.W.findIn X.K (.ref C) "__init__" = some (some (.ref fI))) (tI : PySem.W.typeIn X.K (.ref fI) = some (.type "function"))
    (F1 : FnOk X.prog X.w X.K X.mg X.base CX k fI fd ps sp) (hr : Room (k + 1) X.A) (hb : Binds X.K fd ps ds) (hd : Vals dvs ds) (hx : Passes CX X (fun _ _ _ => False)) (hg : Gl X x) (hm : X.mg x = some (.ref C)) (ha : PA X (e :: es) ta)
    (hdb : (x == ("__debug__" : Str)) = false := by decide) (he : starEach (e :: es) X.env = (false, eval e X.env) :: starEach es X.env := by rfl) (hpl : (backTo pos (starEach es X.env)).any (·.1) = false := by rfl) :
    PMk X (.Call (.Name x p) (e :: es) [] pos) (tMkX C sp dvs ta) := by
  intro pins s σ H Q I h
  obtain ⟨nm, q, N, bs, bm, sn, sub, ab, col, dd, k0, k1, k2, k3, k5, hC, hbm⟩ := T.cls
  refine wpAny_Call_Name_kw (ld_glob I hg hm ?_ hdb)
  refine PySem.W.callWith_K (h₀ := X.base) I.ok.mod.kin T.kC (thn (ha.run pos pins s σ H _ I h) fun us s1 ⟨vs, H1, I1, r1, hz, q1⟩ => ⟨I1.kIn, ?_⟩) he hpl
  show wpAny _ _ (call (.ref C) us) _ _ _
  obtain ⟨hp, g, dr, tk, os⟩ := s1
  have hsz : hp.objs.size ≤ hp.objs.size + 1 := Nat.le_succ _
  have hn : H1 (hp.objs.size + 1) = none := I1.hok.fresh hsz
  have hq := q1 (hp.objs.size + 1) hn
  have kk : ∀ b o, hp.get? b = some o → ((hp.push (PySem.W.kdv_tup us)).push (PySem.HandSPX.excO C hp.objs.size)).get? b = some o := fun b o e => Heap.get?_push_of_some _ (Heap.get?_push_of_some _ e)
  have hget : ((hp.push (PySem.W.kdv_tup us)).push (PySem.HandSPX.excO C hp.objs.size)).get? (hp.objs.size + 1) = some (PySem.HandSPX.excO C hp.objs.size) := by heap_get
  have I2 : Inv X pins σ (upd H1 (hp.objs.size + 1) (exo (hp.objs.size + 1) C none)) ⟨(hp.push (PySem.W.kdv_tup us)).push (PySem.HandSPX.excO C hp.objs.size), g, dr, tk, os⟩ :=
    I1.laid (t' := tk) (a := hp.objs.size + 1) (o := exo (hp.objs.size + 1) C none) (h' := (hp.push (PySem.W.kdv_tup us)).push (PySem.HandSPX.excO C hp.objs.size)) kk hsz (exo_ok hget)
  have r2 : Vals (V.ref (hp.objs.size + 1) :: (vs ++ dvs)) (Value.ref (hp.objs.size + 1) :: (us ++ ds)) := .cons rfl (r1.append hd)
  have hl : (Value.ref (hp.objs.size + 1) :: us ++ ds).length = ps.length := by
    have e := r2.length
    rw [F1.len _ _ _ _ hq] at e
    exact e.symm
  have hus : us.length ≤ sizeLine := by
    rw [← Paired.length r1, sizeLine_eq]
    omega
  refine wpAny_call (PySem.HandSPX.call_own F.excBase_Exception (fun Y => refsEx_contains Y bm hbm) (I1.kIn _ _ hC) (PySem.W.looks_findIn I1.kIn iC) (fun self => PySem.W.bind_fn I1.kIn self tI) hus
    (codeAny_mono (F1.run _ X.stack _ _ ⟨Value.ref (hp.objs.size + 1) :: us, []⟩ (Value.ref (hp.objs.size + 1) :: (us ++ ds)) _ _ (fun _ _ _ => False) (hr.make C us []) (I2.env0.make C us []) (hb _ (Value.ref (hp.objs.size + 1) :: us) I2.kIn hl) r2 hq) fun r s' hq' => ?_))
  cases r with
  | error er => exact hx pins σ _ _ er s' I2 hq'
  | ok fl =>
    cases fl with
    | ret u =>
      obtain ⟨v, H2, os2, bare2, un2, hok2, rv, ev, d, fs, ea, ed, hd1, q2⟩ := hq'
      subst ev
      obtain ⟨h2, g2, d2, t2, os'⟩ := s'
      exact ⟨rv, mk_end (raises_own T.exC T.tyC) I1 hsz kk un2 hok2 os2 bare2 ea ed hd1 q2⟩
    | next => exact False.elim hq'
    | brk => exact False.elim hq'
    | cont => exact False.elim hq'
end
section
variable {X : Cx} {CXt : CXT} {e : Expr} {es : List Expr} {t : TA} {x m : Str} {C f : Addr} {mc : Value} {k : Nat} {fd : FuncData} {ps : List Str} {sp : Sp} {ds : List Value} {dvs : List V} {E : XK} {p p2 pos : Pos} {pl : Sem Bool}
/-- C.m(e, ..), C a class of the text, m a def of it -/
theorem pe_cfun (F : FnOk X.prog X.w X.K X.mg X.base CXt k f fd ps sp) (hr : Room k X.A) (hg : Gl X x) (hm : X.mg x = some (.ref C)) (cr : ClX.CRead X.K C mc) (cv : PySem.W.findCls X.K (.ref C) mc m = some (.val (.ref f)))
    (hk : PySem.W.keepIn X.K (.ref f) = true) (hb : Binds X.K fd ps ds) (hd : Vals dvs ds) (hx : Passes CXt X E) (ha : PA X (e :: es) t)
    (hdb : (x == ("__debug__" : Str)) = false := by decide) (hst : starEach (e :: es) X.env = (false, eval e X.env) :: starEach es X.env := by rfl) (hpl : (backTo pos (starEach es X.env)).any (·.1) = false := by rfl)
    (ht : eval (.Call (.Attribute (.Name x p) m p2) (e :: es) [] pos) X.env = (do
      let ov ← eval (.Name x p) X.env
      standAt p2.atName
      let (g, first) ← holding [ov] (getMethod ov m pl)
      callWith pos g first (backTo pos (starEach (e :: es) X.env)) (backToKw pos (keywordEach [] X.env))) := by rfl) :
    PE X (.Call (.Attribute (.Name x p) m p2) (e :: es) [] pos) (tCall sp dvs E t) := by
  refine ⟨fun pins s σ H Q I h => ?_⟩
  refine PySem.W.methodCall_KW (pl := pl) (ld_glob I hg hm ?_ hdb) ht
  refine PySem.W.method_cls I.kIn cr.ga (ClX.getcval_ok (v := V.ref f) I cr ⟨cv, rfl⟩ fun s2 I2 => ?_)
  refine PySem.W.callWith_K (h₀ := X.base) I2.ok.mod.kin hk (thn (ha.run pos pins s2 σ H _ I2 h) fun us s3 ⟨vs, H1, I3, r, q⟩ => ⟨I3.kIn, ?_⟩) hst hpl
  exact run_fn F hr hb hd hx I3 r q
end
end SDX
set_option Elab.async false
set_option linter.all false
set_option maxRecDepth 100000
set_option maxHeartbeats 4000000
namespace SDX
open PySem PySem.Spec PyProof.Rows L2
section
variable {X : Cx} {CX : CXT} {x : Str} {e : Expr} {es : List Expr} {ta : TA} {p pos : Pos} {C fI : Addr} {k : Nat} {fd : FuncData} {ps : List Str} {sp : Sp}
/-- the made error at a, its dict at d -/
theorem mk_endN {pins : List (Addr × Obj)} {σ : L2.St} {H1 H2 : Hp} {Q : XK} {hp hp2 h2 : Heap} {g1 g2 : Array GenState} {d1 d2 : Drawn} {t1 t2 : Nat} {os1 os2 : OsState} {a C d : Addr} {fs : List (Str × V)} (T : Raises X (.ref C)) (I1 : Inv X pins σ H1 ⟨hp, g1, d1, t1, os1⟩)
    (ha : hp.objs.size ≤ a) (k : ∀ b o, hp.get? b = some o → hp2.get? b = some o) (un : Un (frs X.stack) [] (upd H1 a (exo a C none)) H2 hp2 h2) (hok : HOk X.prog X.w H2 h2) (ho : os2 = os1) (hb : AllBare g2)
    (ea : H2 a = some (exo a C (some d))) (ed : H2 d = some (exd d fs)) (hd1 : H1 d = none) (q : Q (.ref C) (some d) (upd (del H2 a) d (.xd fs))) : L2N.MkP X pins σ Q (.ref a) ⟨h2, g2, d2, t2, os2⟩ := by
  obtain ⟨t0, G, J, kG, ge, hoe, na⟩ := mk_end0 (d2 := d2) (t2 := t2) I1 ha k un hok ho hb ea ed hd1
  exact ⟨a, _, _, ⟨G, g2, d2, t2, os2⟩, _, .ref C, some d, rfl, J, kG, ge, hoe, ⟨rfl, rfl, fun vs e => by cases e; rfl⟩, rfl, rfl, na, rfl, hb, T, q⟩
/-- C(..) of values that are reckoned already -/
theorem call_ex {pins : List (Addr × Obj)} {σ : L2.St} {H1 : Hp} {Q : XK} {s1 : Shared} {us : List Value} {vs : List V} (T : ExC X.K C) (iC : PySem.W.findIn X.K (.ref C) "__init__" = some (some (.ref fI))) (tI : PySem.W.typeIn X.K (.ref fI) = some (.type "function"))
    (F1 : FnOk X.prog X.w X.K X.mg X.base CX k fI fd ps sp) (hr : Room (k + 1) X.A) (hb : Binds X.K fd ps []) (hx : Passes CX X (fun _ _ _ => False)) (I1 : Inv X pins σ H1 s1) (r1 : Vals vs us) (hz : vs.length ≤ 1000)
    (q1 : ∀ a, H1 a = none → sp (.ref a :: vs) (upd H1 a (exo a C none))
      (fun v H2 => v = .non ∧ ∃ (d : Addr) (fs : List (Str × V)), H2 a = some (exo a C (some d)) ∧ H2 d = some (exd d fs) ∧ H1 d = none ∧ Q (.ref C) (some d) (upd (del H2 a) d (.xd fs))) (fun _ _ _ => False)) :
    wpAny (model X.prog X.w) X.A (call (.ref C) us) (L2N.MkP X pins σ Q) X.xe s1 := by
  obtain ⟨nm, q, N, bs, bm, sn, sub, ab, col, dd, k0, k1, k2, k3, k5, hC, hbm⟩ := T.cls
  obtain ⟨hp, g, dr, tk, os⟩ := s1
  have hsz : hp.objs.size ≤ hp.objs.size + 1 := Nat.le_succ _
  have hn : H1 (hp.objs.size + 1) = none := I1.hok.fresh hsz
  have hq := q1 (hp.objs.size + 1) hn
  have kk : ∀ b o, hp.get? b = some o → ((hp.push (PySem.W.kdv_tup us)).push (PySem.HandSPX.excO C hp.objs.size)).get? b = some o := fun b o e => Heap.get?_push_of_some _ (Heap.get?_push_of_some _ e)
  have hget : ((hp.push (PySem.W.kdv_tup us)).push (PySem.HandSPX.excO C hp.objs.size)).get? (hp.objs.size + 1) = some (PySem.HandSPX.excO C hp.objs.size) := by heap_get
  have I2 : Inv X pins σ (upd H1 (hp.objs.size + 1) (exo (hp.objs.size + 1) C none)) ⟨(hp.push (PySem.W.kdv_tup us)).push (PySem.HandSPX.excO C hp.objs.size), g, dr, tk, os⟩ :=
    I1.laid (t' := tk) (a := hp.objs.size + 1) (o := exo (hp.objs.size + 1) C none) (h' := (hp.push (PySem.W.kdv_tup us)).push (PySem.HandSPX.excO C hp.objs.size)) kk hsz (exo_ok hget)
  have r2 : Vals (V.ref (hp.objs.size + 1) :: vs) (Value.ref (hp.objs.size + 1) :: us) := .cons rfl r1
  have hl : (Value.ref (hp.objs.size + 1) :: us ++ []).length = ps.length := by
    have e := r2.length
    rw [F1.len _ _ _ _ hq] at e
    rw [List.append_nil]
    exact e.symm
  have hus : us.length ≤ sizeLine := by
    rw [← Paired.length r1, sizeLine_eq]
    omega
  have b2 := hb ⟨(hp.push (PySem.W.kdv_tup us)).push (PySem.HandSPX.excO C hp.objs.size), g, dr, tk, os⟩ (Value.ref (hp.objs.size + 1) :: us) I2.kIn hl
  rw [List.append_nil] at b2
  refine wpAny_call (PySem.HandSPX.call_own F.excBase_Exception (fun Y => refsEx_contains Y bm hbm) (I1.kIn _ _ hC) (PySem.W.looks_findIn I1.kIn iC) (fun self => PySem.W.bind_fn I1.kIn self tI) hus
    (codeAny_mono (F1.run _ X.stack _ _ ⟨Value.ref (hp.objs.size + 1) :: us, []⟩ (Value.ref (hp.objs.size + 1) :: us) _ _ (fun _ _ _ => False) (hr.make C us []) (I2.env0.make C us []) b2 r2 hq) fun r s' hq' => ?_))
  cases r with
  | error er => exact hx pins σ _ _ er s' I2 hq'
  | ok fl =>
    cases fl with
    | ret u =>
      obtain ⟨v, H2, os2, bare2, un2, hok2, rv, ev, d, fs, ea, ed, hd1, q2⟩ := hq'
      subst ev
      obtain ⟨h2, g2, d2, t2, os'⟩ := s'
      exact ⟨rv, mk_endN (raises_own T.exC T.tyC) I1 hsz kk un2 hok2 os2 bare2 ea ed hd1 q2⟩
    | next => exact False.elim hq'
    | brk => exact False.elim hq'
    | cont => exact False.elim hq'
/-- what C(e, ..) asks: its own __init__ keeps sp -/
def tMkN (C : Addr) (sp : Sp) (ta : TA) : L2.St → Hp → XK → Prop := fun σ H Q => ta σ H fun vs H1 => vs.length ≤ 1000 ∧ ∀ a, H1 a = none → sp (.ref a :: vs) (upd H1 a (exo a C none))
  (fun v H2 => v = .non ∧ ∃ (d : Addr) (fs : List (Str × V)), H2 a = some (exo a C (some d)) ∧ H2 d = some (exd d fs) ∧ H1 d = none ∧ Q (.ref C) (some d) (upd (del H2 a) d (.xd fs))) (fun _ _ _ => False)
theorem pmk_exN (T : ExC X.K C) (iC : PySem.W.findIn X.K (.ref C) "__init__" = some (some (.ref fI))) (tI : PySem.W.typeIn X.K (.ref fI) = some (.type "function"))
    (F1 : FnOk X.prog X.w X.K X.mg X.base CX k fI fd ps sp) (hr : Room (k + 1) X.A) (hb : Binds X.K fd ps []) (hx : Passes CX X (fun _ _ _ => False)) (hg : Gl X x) (hm : X.mg x = some (.ref C)) (ha : PA X (e :: es) ta)
    (hdb : (x == ("__debug__" : Str)) = false := by decide) (he : starEach (e :: es) X.env = (false, eval e X.env) :: starEach es X.env := by rfl) (hpl : (backTo pos (starEach es X.env)).any (·.1) = false := by rfl) :
    L2N.PMk X (.Call (.Name x p) (e :: es) [] pos) (tMkN C sp ta) := by
  intro pins s σ H Q I h
  refine wpAny_Call_Name_kw (ld_glob I hg hm ?_ hdb)
  refine PySem.W.callWith_K (h₀ := X.base) I.ok.mod.kin T.kC (thn (ha.run pos pins s σ H _ I h) fun us s1 ⟨vs, H1, I1, r1, hz, q1⟩ => ⟨I1.kIn, ?_⟩) he hpl
  exact call_ex T iC tI F1 hr hb hx I1 r1 hz q1
theorem pmk_exN0 (T : ExC X.K C) (iC : PySem.W.findIn X.K (.ref C) "__init__" = some (some (.ref fI))) (tI : PySem.W.typeIn X.K (.ref fI) = some (.type "function"))
    (F1 : FnOk X.prog X.w X.K X.mg X.base CX k fI fd ps sp) (hr : Room (k + 1) X.A) (hb : Binds X.K fd ps []) (hx : Passes CX X (fun _ _ _ => False)) (hg : Gl X x) (hm : X.mg x = some (.ref C))
    (hdb : (x == ("__debug__" : Str)) = false := by decide) : L2N.PMk X (.Call (.Name x p) [] [] pos) (tMkN C sp tNil) := by
  intro pins s σ H Q I h
  refine wpAny_Call_Name_kw (ld_glob I hg hm ?_ hdb)
  obtain ⟨hz, q1⟩ := h
  exact PySem.W.callWith_K0 I.kIn T.kC (call_ex (us := []) T iC tI F1 hr hb hx I .nil hz q1)
end

/-! ### defs that may raise (an error whose context is None), defs that are called while an error is handled -/
section
variable {P : Program} {w : World} {K : PySem.W.Frag} {mg : Str → Option Value} {base : Heap}
theorem okN {x qual : Str} {st : Stmt} {f : Addr} {fd : FuncData} {N ps : List Str} {k : Nat} {sp : Sp} (F : L2.Fun K x qual st f fd) (S : FnScope N ps (defScope st)) (len : ∀ vs H Q E, sp vs H Q E → vs.length = ps.length)
    (hbody : ∀ (cdv : Value) (A : Around) (outer : List Env) (s : Shared) (H : Hp) (vs : List V) (Q : VK) (E : XK), Room k (A.deeper (envOfC qual (defScope st) s.heap.objs.size f cdv)) → sp vs H Q E →
      ∃ t, PSs (cxOf (L2N.CX P w) P w K mg base N qual (defScope st) f cdv A outer s H E) (defBody st) t ∧ t { nx := fun _ H' => Q .non H', rt := Q } (start N vs) H) : FnOk P w K mg base (L2N.CX P w) (k + 1) f fd ps sp := by
  obtain ⟨oc, od, kV, doc, pm, an, cdv, ct, osl, rfl, lk, hcd⟩ := F.ex
  exact fn_of lk hcd S len fun A outer s H vs Q E hr hsp => hbody cdv A outer s H vs Q E hr hsp
theorem okH {CX : CXT} {x qual : Str} {st : Stmt} {f : Addr} {fd : FuncData} {N ps : List Str} {k : Nat} {sp : Sp} (F : L2.Fun K x qual st f fd) (S : FnScope N ps (defScope st)) (len : ∀ vs H Q E, sp vs H Q E → vs.length = ps.length)
    (hbody : ∀ (cdv : Value) (A : Around) (outer : List Env) (s : Shared) (H : Hp) (vs : List V) (Q : VK) (E : XK) (p : Addr × Obj), L2H.Hot1 A p → L2H.RoomH k (A.deeper (envOfC qual (defScope st) s.heap.objs.size f cdv)) → sp vs H Q E →
      ∃ t, PSs (L2H.cxH CX P w K mg base N qual (defScope st) f cdv A outer s H E p) (defBody st) t ∧ t { nx := fun _ H' => Q .non H', rt := Q } (start N vs) H) : L2H.FnH P w K mg base CX (k + 1) f fd ps sp := by
  obtain ⟨oc, od, kV, doc, pm, an, cdv, ct, osl, rfl, lk, hcd⟩ := F.ex
  exact L2H.fn_ofH lk hcd S len fun A outer s H vs Q E p hot hr hsp => hbody cdv A outer s H vs Q E p hot hr hsp
theorem takesN0 {X : Cx} : L2N.Takes X (fun _ _ _ _ => False) := fun _ _ x => by
  obtain ⟨_, _, _, _, _, _, _, _, _, _, _, _, _, _, _, _, z⟩ := x
  exact z.elim
theorem passN0 {X : Cx} : Passes (L2N.CX X.prog X.w) X E0 := fun _ _ _ _ _ _ _ h => by
  obtain ⟨_, _, _, _, _, _, _, _, _, _, _, _, z⟩ := h
  exact z.elim
/-- in the body of a def that may raise: what a def that it calls lets out is let out -/
theorem passN {N : List Str} {qual : Str} {sc : Scope} {f : Addr} {cdv : Value} {A : Around} {outer : List Env} {s : Shared} {H : Hp} {E : XK} :
    Passes (L2N.CX P w) (cxOf (L2N.CX P w) P w K mg base N qual sc f cdv A outer s H E) E :=
  L2N.passes_call (X := cxOf (L2N.CX P w) P w K mg base N qual sc f cdv A outer s H E) (E := E) (L2N.takes_of rfl rfl rfl rfl) (fun _ _ _ _ h => h)
end

/-! ### a field of the error that the suite holds, whatever its class -/
def tXfA (K : PySem.W.Frag) (a : Addr) (cls : Value) (d : Option Addr) (f : Str) (te : TE) : TE := fun σ H Q => te σ H fun x H1 => x = .ref a ∧ ∃ C : Addr, cls = .ref C ∧ XfC K C ∧ PySem.W.findIn K (.ref C) f = some none ∧
  ∃ (dd : Addr) (fs : List (Str × V)) (v : V), d = some dd ∧ H1 dd = some (.xd fs) ∧ fs.lookup f = some v ∧ Q v H1
theorem pe_xfA {X : Cx} {a : Addr} {oe : Obj} {cls : Value} {d : Option Addr} {pn : List (Addr × Obj)} {e : Expr} {te : TE} {pos : Pos} {n : Str}
    (hz : L2N.Zn cls d oe) (hf : ∃ vs, oe.data = .fields vs) (he : PE (X.suite a ((a, oe) :: pn)) e te) (hb : attributeBase e n X.env (eval e X.env) = eval e X.env := by rfl) :
    PE (X.suite a ((a, oe) :: pn)) (.Attribute e n pos) (tXfA X.K a cls d n te) := by
  refine ⟨fun pins s σ H Q I h => ?_⟩
  refine attr_of hb (thn (he.run pins s σ H _ I h) fun u s1 hh => ?_)
  obtain ⟨x, H1, I1, rx, ex, C, ec, T, hno, dd, fs, v, ed, ea, l, q⟩ := hh
  subst ex
  obtain rfl : u = Value.ref a := rx
  subst ec
  subst ed
  obtain ⟨ha, _⟩ := I1.pin (a, oe) (List.mem_append_left _ List.mem_cons_self)
  obtain ⟨vs, hd⟩ := hf
  have hx : ObjOk X.prog X.w H1 s1.heap dd (.xd fs) := I1.hok dd _ ea
  obtain ⟨mA, hns, hr⟩ := hx
  obtain ⟨od, ho, hl⟩ := lookIn_ns hns
  obtain ⟨u, hu, ru⟩ := RelO.some_of (v := v) (o := mA n) (by rw [← l]; exact hr n)
  have J : PySem.W.InstAt s1.heap a oe C (some od) := ⟨ha, hz.1, by unfold PySem.W.notCls; rw [hd] <;> rfl, by rw [hz.2.1]; exact ho⟩
  exact HandSPX.exc_get I1.kIn J T.ga T.gg T.exC (PySem.W.findObj_own T.hdC hno rfl (by rw [hl, hu])) (handed_of ru) ⟨v, H1, I1.tok _, ru, q⟩
/-- the suite of a try bears the error that is handled -/
theorem hot_suite {X : Cx} {a : Addr} {oe : Obj} {cls : Value} {d : Option Addr} {pn : List (Addr × Obj)} (hz : L2N.Zn cls d oe) (hf : ∃ vs, oe.data = .fields vs) : L2H.HotC (X.suite a ((a, oe) :: pn)) := by
  obtain ⟨vs, hd⟩ := hf
  exact ⟨(a, oe), ⟨rfl, vs, hd, hz.2.2 vs hd⟩, List.mem_cons_self⟩
end SDX
set_option linter.all false
namespace SDP
open PySem PySem.Spec PyProof.Rows L2 SDX
def top (i : Nat) : Stmt := PySem.Challenge.pw_seamdrafts_s02_print_of.main.body.getD i (.Pass ⟨0, 0, 0, 0⟩)
abbrev sRefI : Stmt := inClass (top 3) 0
abbrev sTooI : Stmt := inClass (top 4) 0
abbrev sNoI : Stmt := inClass (top 5) 0
abbrev sTextOf : Stmt := top 9
abbrev S_bytes_of : Stmt := top 10
abbrev sPastBl : Stmt := top 20
abbrev sPastRe : Stmt := top 21
abbrev sPastLe : Stmt := top 22
abbrev sPastDi : Stmt := top 23
abbrev sPastNu : Stmt := top 24
abbrev sPastTo : Stmt := top 25
abbrev sKindOf : Stmt := top 26
abbrev sToksOf : Stmt := top 27
abbrev sRdI : Stmt := inClass (top 40) 0
abbrev sHere : Stmt := inClass (top 40) 1
abbrev sRefuse : Stmt := inClass (top 40) 2
abbrev sTake : Stmt := inClass (top 40) 3
abbrev sTakeN : Stmt := inClass (top 40) 4
abbrev sPlain : Stmt := top 41
abbrev sSum : Stmt := top 42
abbrev sProd : Stmt := top 43
abbrev sFac : Stmt := top 44
abbrev sPl : Stmt := top 45
abbrev sParts : Stmt := top 46
abbrev sMean : Stmt := top 47
abbrev sCorn : Stmt := top 48
abbrev sPiec : Stmt := top 49
abbrev sSeam : Stmt := top 50
abbrev sStat : Stmt := top 51
abbrev sDraft : Stmt := top 52
abbrev sAtL : Stmt := top 57
abbrev sSignW : Stmt := top 58
abbrev sWith : Stmt := top 59
abbrev sStepsW : Stmt := top 60
abbrev sPieceW : Stmt := top 61
abbrev sStW : Stmt := top 62
abbrev sApart : Stmt := top 63
abbrev sTextW : Stmt := top 64
abbrev sPrintd : Stmt := top 65
abbrev sAnsw : Stmt := top 68
abbrev sCheck : Stmt := top 69
abbrev sPrOf : Stmt := top 70
end SDP
set_option Elab.async false
set_option linter.all false
set_option maxRecDepth 100000
set_option maxHeartbeats 4000000
/-! # Errors -/
namespace SDP
open PySem PySem.Spec PyProof.Rows L2 SDX
/-- an error's class at C, its __init__ at f -/
structure ErrC (K : PySem.W.Frag) (mg : Str → Option Value) (x : Str) (C f : Addr) : Prop where
  g : mg x = some (.ref C)
  ex : ExC K C
  noN : PySem.W.findIn K (.ref C) "number" = some none
  noS : PySem.W.findIn K (.ref C) "signed" = some none
  iC : PySem.W.findIn K (.ref C) "__init__" = some (some (.ref f))
  tI : PySem.W.typeIn K (.ref f) = some (.type "function")
  xf : XfC K C
/-- all that was there stands -/
theorem same_new {H : Hp} {p : Addr} (h : H p = none) (o : HO) : Same H (upd H p o) := fun b u q => by rw [upd_ne (ne_of_none q h)]; exact q
def spRefI (K : PySem.W.Frag) : Sp := fun vs H Q _ => ∃ (a C l : Addr) (n : Int), vs = [.ref a, .int n, .ref l] ∧ ExC K C ∧ PySem.W.findIn K (.ref C) "number" = some none ∧ PySem.W.findIn K (.ref C) "signed" = some none ∧ H a = some (exo a C none) ∧
  ∀ dx, H dx = none → dx ≠ a → Q .non (upd (upd (upd H dx (exd dx [("number", .int n)])) a (exo a C (some dx))) dx (exd dx [("signed", .ref l), ("number", .int n)]))
section
variable {P : Program} {w : World} {K : PySem.W.Frag} {mg : Str → Option Value} {base : Heap}
theorem scRefI : FnScope ["self", "number", "signed"] ["self", "number", "signed"] (defScope sRefI) := ⟨rfl, rfl, rfl, by decide +kernel, rfl, by decide +kernel, by decide +kernel⟩
theorem ok_refI {f : Addr} {fd : FuncData} (F : L2.Fun K "__init__" "Refusal.__init__" sRefI f fd) (mE : mg "Exception" = none) (vE : PySem.W.findCls K (.type "Exception") (.type "type") "__init__" = some (.val (.builtin "Exception.__init__"))) :
    FnOk P w K mg base CX0 1 f fd ["self", "number", "signed"] (spRefI K) := by
  refine F.ok scRefI (fun vs H Q E h => ?_) (fun cdv A outer s H vs Q E hr h => ?_)
  · obtain ⟨a, C, l, n, rfl, _⟩ := h
    rfl
  obtain ⟨a, C, l, n, rfl, T, hn, hs, ha, q⟩ := h
  refine ⟨_, pss_cons (ps_expr (pe_exinit rfl mE vE (pa_cons (pv 0) (pa_cons pe_str pa_nil))))
    (pss_cons (ps_xst (pv 0) (pv 1)) (pss_one (ps_xst (pv 0) (pv 2)))), ?_⟩
  refine ⟨_, rfl, a, C, [_], rfl, by decide, T, ha, ?_⟩
  refine ⟨_, rfl, _, rfl, a, C, rfl, T, hn, .inl ⟨ha, fun dx hd hne => ?_⟩⟩
  refine ⟨_, rfl, _, rfl, a, C, rfl, T, hs, .inr ⟨dx, [(("number" : Str), V.int n)], upd_same, ?_, (by show 1 ≤ 900; decide), ?_⟩⟩
  · rw [upd_ne hne]
    exact upd_same
  · exact q dx hd hne
def spTooI (K : PySem.W.Frag) : Sp := fun vs H Q _ => ∃ (a C : Addr), vs = [.ref a] ∧ ExC K C ∧ PySem.W.findIn K (.ref C) "number" = some none ∧ PySem.W.findIn K (.ref C) "signed" = some none ∧ H a = some (exo a C none) ∧
  ∀ (d l : Addr) (H' : Hp), (∀ b o, b ≠ a → H b = some o → H' b = some o) → H d = none → l ≠ a → d ≠ a → H' a = some (exo a C (some d)) → H' d = some (exd d [("signed", .ref l), ("number", .int (-1))]) → H' l = some (.lst []) → Q .non H'
theorem scTooI : FnScope ["self"] ["self"] (defScope sTooI) := ⟨rfl, rfl, rfl, by decide +kernel, rfl, by decide +kernel, by decide +kernel⟩
theorem ok_tooI {f f1 C1 : Addr} {fd fd1 : FuncData} {mc : Value} (F : L2.Fun K "__init__" "TooLong.__init__" sTooI f fd) (F1 : L2.Fun K "__init__" "Refusal.__init__" sRefI f1 fd1) (b1 : L2.Binds K fd1 ["self", "number", "signed"] [])
    (g1 : mg "Refusal" = some (.ref C1)) (cr : ClX.CRead K C1 mc) (cv : PySem.W.findCls K (.ref C1) mc "__init__" = some (.val (.ref f1)))
    (mE : mg "Exception" = none) (vE : PySem.W.findCls K (.type "Exception") (.type "type") "__init__" = some (.val (.builtin "Exception.__init__"))) :
    FnOk P w K mg base CX0 2 f fd ["self"] (spTooI K) := by
  refine F.ok scTooI (fun vs H Q E h => ?_) (fun cdv A outer s H vs Q E hr h => ?_)
  · obtain ⟨a, C, rfl, _⟩ := h
    rfl
  obtain ⟨a, C, rfl, T, hn, hs, ha, q⟩ := h
  refine ⟨_, pss_one (ps_expr (pe_cfun (ok_refI F1 mE vE) hr rfl g1 cr cv F1.kp b1 .nil pass0 (pa_cons (pv 0) (pa_cons (pe_un un_neg pe_int) (pa_cons (pe_lst pa_nil) pa_nil))))), ?_⟩
  refine ⟨_, rfl, _, rfl, (by show 0 ≤ sizeLine; decide), fun l hl => ?_⟩
  have hla : l ≠ a := fun z => by rw [z, ha] at hl; cases hl
  refine ⟨a, C, l, -1, rfl, T, hn, hs, ?_, fun d hd hda => ?_⟩
  · rw [upd_ne (Ne.symm hla)]
    exact ha
  have hdl : d ≠ l := fun z => by rw [z, upd_same] at hd; cases hd
  have hd0 : H d = none := by rw [upd_ne hdl] at hd; exact hd
  refine q d l _ (fun b o hb hbo => ?_) hd0 hla hda ?_ upd_same ?_
  · rw [upd_ne (ne_of_none hbo hd0), upd_ne hb, upd_ne (ne_of_none hbo hd0), upd_ne (ne_of_none hbo hl)]
    exact hbo
  · rw [upd_ne (Ne.symm hda), upd_same]
  · rw [upd_ne (Ne.symm hdl), upd_ne hla, upd_ne (Ne.symm hdl), upd_same]
/-- what is wanted of an error of the class at C that tells these numbers -/
def Rs (C : Addr) (E : XK) (n : Int) (ns : List Int) : Prop := ∀ (d l : Addr) (H' : Hp), H' d = some (.xd [("signed", .ref l), ("number", .int n)]) → H' l = some (.lst (ns.map V.int)) → E (.ref C) (some d) H'
/-- the heap behind the making of an error -/
theorem rs_made {C a d l : Addr} {H1 H2 : Hp} {E : XK} {n : Int} {ns : List Int} (rs : Rs C E n ns) (hl : l ≠ a) (hd : d ≠ l)
    (h2 : H2 l = some (.lst (ns.map V.int))) : E (.ref C) (some d) (upd (del H2 a) d (.xd [("signed", .ref l), ("number", .int n)])) :=
  rs d l _ upd_same (by rw [upd_ne (Ne.symm hd), del_ne hl]; exact h2)
theorem mk_too {σ : L2.St} {H : Hp} {C f : Addr} {E : XK} (T : ErrC K mg "TooLong" C f) (rs : Rs C E (-1) []) : tMkN C (spTooI K) tNil σ H E := by
  refine ⟨by show 0 ≤ 1000; decide, fun a ha => ⟨a, C, rfl, T.ex, T.noN, T.noS, upd_same, fun d l H' keep hd hla hda ea ed el => ⟨rfl, d, _, ea, ed, ?_, ?_⟩⟩⟩
  · rw [upd_ne hda] at hd
    exact hd
  · have hdl : d ≠ l := fun z => by
      rw [z, el] at ed
      cases ed
    exact rs_made (H1 := H) rs hla hdl el
end
end SDP
set_option Elab.async false
/-! # The reading of sums and places without its fuel -/
namespace SD
open SeamNum SeamPoly SeamPattern SeamText

theorem next_ok {ε α β : Type} {a : α} {f : α → Except ε β} : next (.ok a) f = f a := rfl
theorem next_er {ε α β : Type} {e : ε} {f : α → Except ε β} : next (.error e : Except ε α) f = .error e := rfl
theorem next_cg {ε α β : Type} {x y : Except ε α} {f g : α → Except ε β} (h : x = y) (k : ∀ a, y = .ok a → f a = g a) : next x f = next y g := by
  subst h
  cases x with
  | error e => rfl
  | ok a => exact k a rfl
theorem next_is {ε α β : Type} {x : Except ε α} {f : α → Except ε β} {b : β} (h : next x f = .ok b) : ∃ a, x = .ok a ∧ f a = .ok b := by
  cases x with
  | error e => cases h
  | ok a => exact ⟨a, rfl, h⟩
theorem wrong_ne {α : Type} {t : Toks} {x : α × Toks} : (wrong t : Got α) ≠ .ok x := fun h => nomatch h
theorem sign_is {c : UInt8} {t : Toks} {x : Unit × Toks} (h : SeamText.sign c t = .ok x) : ∃ p, t = (p, .sign c) :: x.2 := by
  unfold SeamText.sign at h
  split at h
  · rename_i p d r
    by_cases e : d = c
    · rw [if_pos e] at h
      subst e
      cases h
      exact ⟨p, rfl⟩
    · rw [if_neg e] at h
      cases h
  · cases h
theorem sign_len {c : UInt8} {t : Toks} {x : Unit × Toks} (h : SeamText.sign c t = .ok x) : x.2.length + 1 = t.length := by
  obtain ⟨p, e⟩ := sign_is h
  rw [e]
  rfl

/-- how much a goal takes at least -/
def least : Goal → Nat
  | .sumMore _ => 0
  | .productMore _ => 0
  | _ => 1
theorem read_len : ∀ (f d : Nat) (g : Goal) (t : Toks) (e : E) (r : Toks), SeamText.read f d g t = .ok (e, r) → r.length + least g ≤ t.length
  | 0, d, g, t, e, r, h => by
    unfold SeamText.read at h
    cases h
  | f + 1, d, .sum, t, e, r, h => by
    unfold SeamText.read at h
    obtain ⟨a, h1, h2⟩ := next_is h
    have q1 := read_len f d _ _ a.1 a.2 h1
    have q2 := read_len f d _ _ _ _ h2
    simp only [least] at q1 q2 ⊢
    omega
  | f + 1, d, .product, t, e, r, h => by
    unfold SeamText.read at h
    obtain ⟨a, h1, h2⟩ := next_is h
    have q1 := read_len f d _ _ a.1 a.2 h1
    have q2 := read_len f d _ _ _ _ h2
    simp only [least] at q1 q2 ⊢
    omega
  | f + 1, d, .sumMore a, t, e, r, h => by
    unfold SeamText.read at h
    split at h
    · rename_i p c r1
      split at h
      · obtain ⟨b, h1, h2⟩ := next_is h
        have q1 := read_len f d _ _ b.1 b.2 h1
        have q2 := read_len f d _ _ _ _ h2
        simp only [least, List.length_cons] at q1 q2 ⊢
        omega
      · cases h
        exact Nat.le_refl _
    · cases h
      exact Nat.le_refl _
  | f + 1, d, .productMore a, t, e, r, h => by
    unfold SeamText.read at h
    split at h
    · rename_i p c r1
      split at h
      · obtain ⟨b, h1, h2⟩ := next_is h
        have q1 := read_len f d _ _ b.1 b.2 h1
        have q2 := read_len f d _ _ _ _ h2
        simp only [least, List.length_cons] at q1 q2 ⊢
        omega
      · cases h
        exact Nat.le_refl _
    · cases h
      exact Nat.le_refl _
  | f + 1, d, .factor, t, e, r, h => by
    unfold SeamText.read at h
    split at h
    · cases h
      exact Nat.le_refl _
    · rename_i p b r1
      split at h
      · split at h
        · cases h
        · obtain ⟨x, h1, h2⟩ := next_is h
          have q1 := sign_len h1
          have q2 := read_len f _ _ _ _ _ h2
          simp only [least, List.length_cons] at q2 ⊢
          omega
      · split at h
        · cases h
        · cases h
          exact Nat.le_refl _
    · rename_i p c r1
      split at h
      · split at h
        · cases h
        · obtain ⟨x, h1, h2⟩ := next_is h
          have q1 := read_len f _ _ _ x.1 x.2 h1
          cases h2
          simp only [least, List.length_cons] at q1 ⊢
          omega
      · split at h
        · split at h
          · cases h
          · obtain ⟨x, h1, h2⟩ := next_is h
            have q1 := read_len f _ _ _ x.1 x.2 h1
            obtain ⟨y, h3, h4⟩ := next_is h2
            have q2 := sign_len h3
            cases h4
            simp only [least, List.length_cons] at q1 ⊢
            omega
        · cases h
    · cases h
  | f + 1, d, .place, t, e, r, h => by
    unfold SeamText.read at h
    split at h
    · rename_i p b r1
      split at h
      · split at h
        · cases h
        · obtain ⟨x, h1, h2⟩ := next_is h
          have q1 := sign_len h1
          have q2 := read_len f _ _ _ _ _ h2
          simp only [least, List.length_cons] at q2 ⊢
          omega
      · split at h
        · cases h
        · cases h
          exact Nat.le_refl _
    · rename_i p c r1
      split at h
      · have q2 := read_len f _ _ _ _ _ h
        simp only [least, List.length_cons] at q2 ⊢
        omega
      · cases h
    · cases h
  | f + 1, d, .parts g l more, t, e, r, h => by
    unfold SeamText.read at h
    cases more with
    | nil =>
      obtain ⟨x, h1, h2⟩ := next_is h
      have q1 := sign_len h1
      cases h2
      simp only [least]
      omega
    | cons p m =>
      obtain ⟨x, h1, h2⟩ := next_is h
      have q1 := read_len f _ _ _ x.1 x.2 h1
      have q1' : x.2.length ≤ t.length := by omega
      split at h2
      · have q2 := read_len f _ _ _ _ _ h2
        simp only [least] at q2 ⊢
        omega
      · obtain ⟨y, h3, h4⟩ := next_is h2
        have q3 := sign_len h3
        have q2 := read_len f _ _ _ _ _ h4
        simp only [least] at q2 ⊢
        omega

def rank : Goal → Nat
  | .sumMore _ => 1
  | .productMore _ => 1
  | .factor => 2
  | .place => 2
  | .product => 3
  | .sum => 4
  | .parts _ _ _ => 5
theorem read_same : ∀ (n d : Nat) (g : Goal) (t : Toks), 8 * t.length + rank g ≤ n → ∀ f1 f2 : Nat, n < f1 → n < f2 → SeamText.read f1 d g t = SeamText.read f2 d g t
  | 0, d, g, t, hn, f1, f2, h1, h2 => by
    have : 1 ≤ rank g := by cases g <;> simp [rank]
    omega
  | n + 1, d, g, t, hn, 0, f2, h1, h2 => by omega
  | n + 1, d, g, t, hn, f1 + 1, 0, h1, h2 => by omega
  | n + 1, d, g, t, hn, f1 + 1, f2 + 1, h1, h2 => by
    have ih : ∀ (d : Nat) (g : Goal) (t : Toks), 8 * t.length + rank g ≤ n → SeamText.read f1 d g t = SeamText.read f2 d g t := fun d g t h => read_same n d g t h f1 f2 (by omega) (by omega)
    have ln := read_len f2
    cases g with
    | sum =>
      simp only [SeamText.read]
      simp only [rank] at hn
      refine next_cg (ih _ _ _ (by simp only [rank]; omega)) fun a ha => ?_
      have q := ln _ _ _ a.1 a.2 ha
      simp only [least] at q
      exact ih _ _ _ (by simp only [rank]; omega)
    | product =>
      simp only [SeamText.read]
      simp only [rank] at hn
      refine next_cg (ih _ _ _ (by simp only [rank]; omega)) fun a ha => ?_
      have q := ln _ _ _ a.1 a.2 ha
      simp only [least] at q
      exact ih _ _ _ (by simp only [rank]; omega)
    | sumMore a =>
      simp only [SeamText.read]
      simp only [rank] at hn
      split
      · rename_i p c r
        simp only [List.length_cons] at hn
        split
        · refine next_cg (ih _ _ _ (by simp only [rank]; omega)) fun b hb => ?_
          have q := ln _ _ _ b.1 b.2 hb
          simp only [least] at q
          exact ih _ _ _ (by simp only [rank]; omega)
        · rfl
      · rfl
    | productMore a =>
      simp only [SeamText.read]
      simp only [rank] at hn
      split
      · rename_i p c r
        simp only [List.length_cons] at hn
        split
        · refine next_cg (ih _ _ _ (by simp only [rank]; omega)) fun b hb => ?_
          have q := ln _ _ _ b.1 b.2 hb
          simp only [least] at q
          exact ih _ _ _ (by simp only [rank]; omega)
        · rfl
      · rfl
    | factor =>
      simp only [SeamText.read]
      simp only [rank] at hn
      split
      · rfl
      · rename_i p b r
        simp only [List.length_cons] at hn
        split
        · split
          · rfl
          · refine next_cg rfl fun x hx => ?_
            have q := sign_len hx
            exact ih _ _ _ (by simp only [rank]; omega)
        · rfl
      · rename_i p c r
        simp only [List.length_cons] at hn
        split
        · split
          · rfl
          · exact next_cg (ih _ _ _ (by simp only [rank]; omega)) fun _ _ => rfl
        · split
          · split
            · rfl
            · exact next_cg (ih _ _ _ (by simp only [rank]; omega)) fun _ _ => rfl
          · rfl
      · rfl
    | place =>
      simp only [SeamText.read]
      simp only [rank] at hn
      split
      · rename_i p b r
        simp only [List.length_cons] at hn
        split
        · split
          · rfl
          · refine next_cg rfl fun x hx => ?_
            have q := sign_len hx
            exact ih _ _ _ (by simp only [rank]; omega)
        · rfl
      · rename_i p c r
        simp only [List.length_cons] at hn
        split
        · exact ih _ _ _ (by simp only [rank]; omega)
        · rfl
      · rfl
    | parts g l more =>
      simp only [rank] at hn
      cases more with
      | nil => simp only [SeamText.read]
      | cons p m =>
        simp only [SeamText.read]
        refine next_cg (ih _ _ _ (by cases p <;> simp [rank] <;> omega)) fun x hx => ?_
        have q := ln _ _ _ x.1 x.2 hx
        have q' : x.2.length + 1 ≤ t.length := by
          cases p <;> exact q
        split
        · exact ih _ _ _ (by simp only [rank]; omega)
        · refine next_cg rfl fun y hy => ?_
          have q3 := sign_len hy
          exact ih _ _ _ (by simp only [rank]; omega)

/-- reading, as much fuel as is ever wanted -/
def rd (d : Nat) (g : Goal) (t : Toks) : Got E := SeamText.read (fuel t) d g t
theorem rank_le (g : Goal) : rank g ≤ 5 := by cases g <;> simp [rank]
theorem rd_of {f d : Nat} {g : Goal} {t : Toks} (h : 8 * t.length + rank g < f) : SeamText.read f d g t = rd d g t :=
  read_same _ d g t (Nat.le_refl _) f _ h (by have := rank_le g; unfold fuel; omega)
theorem rd_len {d : Nat} {g : Goal} {t : Toks} {e : E} {r : Toks} (h : rd d g t = .ok (e, r)) : r.length + least g ≤ t.length := read_len _ _ _ _ _ _ h

theorem rd_sum (d : Nat) (t : Toks) : rd d .sum t = next (rd d .product t) fun a => rd d (.sumMore a.1) a.2 := by
  show SeamText.read (8 * (t.length + 1) + 7 + 1) d .sum t = _
  obtain ⟨F, hF⟩ : ∃ F, F = 8 * (t.length + 1) + 7 := ⟨_, rfl⟩
  rw [← hF]
  simp only [SeamText.read]
  refine next_cg (rd_of (by simp only [rank]; omega)) fun a ha => ?_
  have q := rd_len (e := a.1) (r := a.2) ha
  exact rd_of (by simp only [rank, least] at q ⊢; omega)
theorem rd_product (d : Nat) (t : Toks) : rd d .product t = next (rd d .factor t) fun a => rd d (.productMore a.1) a.2 := by
  show SeamText.read (8 * (t.length + 1) + 7 + 1) d .product t = _
  obtain ⟨F, hF⟩ : ∃ F, F = 8 * (t.length + 1) + 7 := ⟨_, rfl⟩
  rw [← hF]
  simp only [SeamText.read]
  refine next_cg (rd_of (by simp only [rank]; omega)) fun a ha => ?_
  have q := rd_len (e := a.1) (r := a.2) ha
  exact rd_of (by simp only [rank, least] at q ⊢; omega)
theorem rd_sumMore_go (d : Nat) (a : E) (p : Nat) (c : UInt8) (r : Toks) (h : c = 43 ∨ c = 45) : rd d (.sumMore a) ((p, .sign c) :: r) = next (rd d .product r) fun b => rd d (.sumMore (.op c a b.1)) b.2 := by
  show SeamText.read (8 * ((r.length + 1) + 1) + 7 + 1) d (.sumMore a) _ = _
  obtain ⟨F, hF⟩ : ∃ F, F = 8 * ((r.length + 1) + 1) + 7 := ⟨_, rfl⟩
  rw [← hF]
  simp only [SeamText.read]
  rw [if_pos h]
  refine next_cg (rd_of (by simp only [rank]; omega)) fun b hb => ?_
  have q := rd_len (e := b.1) (r := b.2) hb
  exact rd_of (by simp only [rank, least] at q ⊢; omega)
/-- no + and no - stands first -/
def noSign (l : List UInt8) (t : Toks) : Prop := ∀ p c r, t = (p, .sign c) :: r → c ∉ l
theorem rd_sumMore_stop (d : Nat) (a : E) (t : Toks) (h : noSign [43, 45] t) : rd d (.sumMore a) t = .ok (a, t) := by
  show SeamText.read (8 * (t.length + 1) + 7 + 1) d (.sumMore a) _ = _
  obtain ⟨F, hF⟩ : ∃ F, F = 8 * (t.length + 1) + 7 := ⟨_, rfl⟩
  rw [← hF]
  simp only [SeamText.read]
  split
  · rename_i p c r
    have q := h p c r rfl
    rw [if_neg (by simpa using q)]
  · rfl
theorem rd_productMore_go (d : Nat) (a : E) (p : Nat) (c : UInt8) (r : Toks) (h : c = 42 ∨ c = 47) : rd d (.productMore a) ((p, .sign c) :: r) = next (rd d .factor r) fun b => rd d (.productMore (.op c a b.1)) b.2 := by
  show SeamText.read (8 * ((r.length + 1) + 1) + 7 + 1) d (.productMore a) _ = _
  obtain ⟨F, hF⟩ : ∃ F, F = 8 * ((r.length + 1) + 1) + 7 := ⟨_, rfl⟩
  rw [← hF]
  simp only [SeamText.read]
  rw [if_pos h]
  refine next_cg (rd_of (by simp only [rank]; omega)) fun b hb => ?_
  have q := rd_len (e := b.1) (r := b.2) hb
  exact rd_of (by simp only [rank, least] at q ⊢; omega)
theorem rd_productMore_stop (d : Nat) (a : E) (t : Toks) (h : noSign [42, 47] t) : rd d (.productMore a) t = .ok (a, t) := by
  show SeamText.read (8 * (t.length + 1) + 7 + 1) d (.productMore a) _ = _
  obtain ⟨F, hF⟩ : ∃ F, F = 8 * (t.length + 1) + 7 := ⟨_, rfl⟩
  rw [← hF]
  simp only [SeamText.read]
  split
  · rename_i p c r
    have q := h p c r rfl
    rw [if_neg (by simpa using q)]
  · rfl
theorem rd_num (d p n k : Nat) (r : Toks) : rd d .factor ((p, .num n k) :: r) = .ok (.num n k, r) := rfl
theorem rd_nil (d : Nat) : rd d .factor [] = wrong [] := rfl
theorem rd_name (d p : Nat) (b : Bytes) (r : Toks) (h : isWord b = false) : rd d .factor ((p, .name b) :: r) = .ok (.name b, r) := by
  have q : ofSums b = none := by
    unfold isWord at h
    cases e : ofSums b with
    | none => rfl
    | some x => rw [e] at h; simp at h
  show SeamText.read (8 * ((r.length + 1) + 1) + 7 + 1) d .factor _ = _
  obtain ⟨F, hF⟩ : ∃ F, F = 8 * ((r.length + 1) + 1) + 7 := ⟨_, rfl⟩
  rw [← hF]
  simp only [SeamText.read]
  rw [q]
  show (if isWord b = true then _ else _) = _
  rw [h]
  rfl
/-- a word that is none of x, y, min, max -/
theorem rd_word (d p : Nat) (b : Bytes) (r : Toks) (h : isWord b = true) (q : ofSums b = none) : rd d .factor ((p, .name b) :: r) = wrong ((p, .name b) :: r) := by
  show SeamText.read (8 * ((r.length + 1) + 1) + 7 + 1) d .factor _ = _
  obtain ⟨F, hF⟩ : ∃ F, F = 8 * ((r.length + 1) + 1) + 7 := ⟨_, rfl⟩
  rw [← hF]
  simp only [SeamText.read]
  rw [q]
  show (if isWord b = true then _ else _) = _
  rw [h]
  rfl
theorem rd_fn (d p : Nat) (b : Bytes) (r : Toks) (g : Nat) (q : ofSums b = some g) : rd d .factor ((p, .name b) :: r) = if DEEP ≤ d then wrong ((p, .name b) :: r) else next (SeamText.sign 40 r) fun x => rd (d + 1) (.parts g [] (takesOf g)) x.2 := by
  show SeamText.read (8 * ((r.length + 1) + 1) + 7 + 1) d .factor _ = _
  obtain ⟨F, hF⟩ : ∃ F, F = 8 * ((r.length + 1) + 1) + 7 := ⟨_, rfl⟩
  rw [← hF]
  simp only [SeamText.read]
  rw [q]
  show (if DEEP ≤ d then _ else _) = _
  split
  · rfl
  · refine next_cg rfl fun x hx => ?_
    have e := sign_len hx
    exact rd_of (by simp only [rank]; omega)
theorem rd_neg (d p : Nat) (r : Toks) : rd d .factor ((p, .sign 45) :: r) = if DEEP ≤ d then wrong ((p, .sign 45) :: r) else next (rd (d + 1) .factor r) fun a => .ok (.neg a.1, a.2) := by
  show SeamText.read (8 * ((r.length + 1) + 1) + 7 + 1) d .factor _ = _
  obtain ⟨F, hF⟩ : ∃ F, F = 8 * ((r.length + 1) + 1) + 7 := ⟨_, rfl⟩
  rw [← hF]
  simp only [SeamText.read]
  rw [if_pos trivial]
  split
  · rfl
  · exact next_cg (rd_of (by simp only [rank]; omega)) fun _ _ => rfl
theorem rd_paren (d p : Nat) (r : Toks) : rd d .factor ((p, .sign 40) :: r) = if DEEP ≤ d then wrong ((p, .sign 40) :: r) else next (rd (d + 1) .sum r) fun a => next (SeamText.sign 41 a.2) fun x => .ok (a.1, x.2) := by
  show SeamText.read (8 * ((r.length + 1) + 1) + 7 + 1) d .factor _ = _
  obtain ⟨F, hF⟩ : ∃ F, F = 8 * ((r.length + 1) + 1) + 7 := ⟨_, rfl⟩
  rw [← hF]
  simp only [SeamText.read]
  rw [if_neg (by decide), if_pos trivial]
  split
  · rfl
  · exact next_cg (rd_of (by simp only [rank]; omega)) fun _ _ => rfl
theorem rd_other (d p : Nat) (c : UInt8) (r : Toks) (h1 : c ≠ 45) (h2 : c ≠ 40) : rd d .factor ((p, .sign c) :: r) = wrong ((p, .sign c) :: r) := by
  show SeamText.read (8 * ((r.length + 1) + 1) + 7 + 1) d .factor _ = _
  obtain ⟨F, hF⟩ : ∃ F, F = 8 * ((r.length + 1) + 1) + 7 := ⟨_, rfl⟩
  rw [← hF]
  simp only [SeamText.read]
  rw [if_neg h1, if_neg h2]
theorem rd_pnil (d : Nat) : rd d .place [] = wrong [] := rfl
theorem rd_pnum (d p n k : Nat) (r : Toks) : rd d .place ((p, .num n k) :: r) = wrong ((p, .num n k) :: r) := rfl
theorem rd_pname (d p : Nat) (b : Bytes) (r : Toks) (h : isWord b = false) : rd d .place ((p, .name b) :: r) = .ok (.name b, r) := by
  have q : ofPlaces b = none := by
    unfold isWord at h
    cases e : ofPlaces b with
    | none => rfl
    | some x => rw [e] at h; simp at h
  show SeamText.read (8 * ((r.length + 1) + 1) + 7 + 1) d .place _ = _
  obtain ⟨F, hF⟩ : ∃ F, F = 8 * ((r.length + 1) + 1) + 7 := ⟨_, rfl⟩
  rw [← hF]
  simp only [SeamText.read]
  rw [q]
  show (if isWord b = true then _ else _) = _
  rw [h]
  rfl
theorem rd_pword (d p : Nat) (b : Bytes) (r : Toks) (h : isWord b = true) (q : ofPlaces b = none) : rd d .place ((p, .name b) :: r) = wrong ((p, .name b) :: r) := by
  show SeamText.read (8 * ((r.length + 1) + 1) + 7 + 1) d .place _ = _
  obtain ⟨F, hF⟩ : ∃ F, F = 8 * ((r.length + 1) + 1) + 7 := ⟨_, rfl⟩
  rw [← hF]
  simp only [SeamText.read]
  rw [q]
  show (if isWord b = true then _ else _) = _
  rw [h]
  rfl
theorem rd_pfn (d p : Nat) (b : Bytes) (r : Toks) (g : Nat) (q : ofPlaces b = some g) : rd d .place ((p, .name b) :: r) = if DEEP ≤ d then wrong ((p, .name b) :: r) else next (SeamText.sign 40 r) fun x => rd (d + 1) (.parts g [] (takesOf g)) x.2 := by
  show SeamText.read (8 * ((r.length + 1) + 1) + 7 + 1) d .place _ = _
  obtain ⟨F, hF⟩ : ∃ F, F = 8 * ((r.length + 1) + 1) + 7 := ⟨_, rfl⟩
  rw [← hF]
  simp only [SeamText.read]
  rw [q]
  show (if DEEP ≤ d then _ else _) = _
  split
  · rfl
  · refine next_cg rfl fun x hx => ?_
    have e := sign_len hx
    exact rd_of (by simp only [rank]; omega)
theorem rd_pair (d p : Nat) (r : Toks) (h : d < DEEP) : rd d .place ((p, .sign 40) :: r) = rd (d + 1) (.parts 4 [] (takesOf 4)) r := by
  show SeamText.read (8 * ((r.length + 1) + 1) + 7 + 1) d .place _ = _
  obtain ⟨F, hF⟩ : ∃ F, F = 8 * ((r.length + 1) + 1) + 7 := ⟨_, rfl⟩
  rw [← hF]
  simp only [SeamText.read]
  rw [if_pos ⟨trivial, h⟩]
  exact rd_of (by simp only [rank]; omega)
theorem rd_pdeep (d p : Nat) (r : Toks) (h : DEEP ≤ d) : rd d .place ((p, .sign 40) :: r) = wrong ((p, .sign 40) :: r) := by
  show SeamText.read (8 * ((r.length + 1) + 1) + 7 + 1) d .place _ = _
  obtain ⟨F, hF⟩ : ∃ F, F = 8 * ((r.length + 1) + 1) + 7 := ⟨_, rfl⟩
  rw [← hF]
  simp only [SeamText.read]
  rw [if_neg (by omega)]
theorem rd_pother (d p : Nat) (c : UInt8) (r : Toks) (h : c ≠ 40) : rd d .place ((p, .sign c) :: r) = wrong ((p, .sign c) :: r) := by
  show SeamText.read (8 * ((r.length + 1) + 1) + 7 + 1) d .place _ = _
  obtain ⟨F, hF⟩ : ∃ F, F = 8 * ((r.length + 1) + 1) + 7 := ⟨_, rfl⟩
  rw [← hF]
  simp only [SeamText.read]
  rw [if_neg (fun z => h z.1)]
theorem rd_parts_nil (d g : Nat) (l : List E) (t : Toks) : rd d (.parts g l []) t = next (SeamText.sign 41 t) fun x => .ok (called g l, x.2) := by
  show SeamText.read (8 * (t.length + 1) + 7 + 1) d (.parts g l []) _ = _
  obtain ⟨F, hF⟩ : ∃ F, F = 8 * (t.length + 1) + 7 := ⟨_, rfl⟩
  rw [← hF]
  simp only [SeamText.read]
theorem rd_parts_cons (d g : Nat) (l : List E) (p : Bool) (m : List Bool) (t : Toks) : rd d (.parts g l (p :: m)) t = next (rd d (if p = true then .place else .sum) t) fun a => if m = [] then rd d (.parts g (l ++ [a.1]) []) a.2 else next (SeamText.sign 44 a.2) fun x => rd d (.parts g (l ++ [a.1]) m) x.2 := by
  show SeamText.read (8 * (t.length + 1) + 7 + 1) d (.parts g l (p :: m)) _ = _
  obtain ⟨F, hF⟩ : ∃ F, F = 8 * (t.length + 1) + 7 := ⟨_, rfl⟩
  rw [← hF]
  simp only [SeamText.read]
  refine next_cg (rd_of (by cases p <;> simp [rank] <;> omega)) fun a ha => ?_
  have q := rd_len (e := a.1) (r := a.2) ha
  have q' : a.2.length + 1 ≤ t.length := by
    cases p <;> exact q
  split
  · exact rd_of (by simp only [rank]; omega)
  · refine next_cg rfl fun y hy => ?_
    have q3 := sign_len hy
    exact rd_of (by simp only [rank]; omega)
end SD
set_option Elab.async false
/-! # Tokens -/
namespace SD
open SeamNum SeamPoly SeamPattern SeamText

/-! ### lex without its fuel -/
theorem drop_le {α : Type} (n : Nat) (l : List α) : (l.drop n).length ≤ l.length := by rw [List.length_drop]; omega
theorem dw_le {α : Type} (p : α → Bool) : ∀ l : List α, (l.dropWhile p).length ≤ l.length
  | [] => Nat.le_refl _
  | c :: r => by
    rw [List.dropWhile_cons]
    split
    · exact Nat.le_succ_of_le (dw_le p r)
    · exact Nat.le_refl _
theorem tw_pos {p : UInt8 → Bool} {c : UInt8} {r : Bytes} (h : p c = true) : 1 ≤ ((c :: r).takeWhile p).length := by
  rw [List.takeWhile_cons, if_pos h]
  simp
theorem lex_same : ∀ (n : Nat) (l : Bytes), l.length ≤ n → ∀ (f g p : Nat), n < f → n < g → lex f p l = lex g p l
  | n, l, hl, 0, g, p, hf, hg => by omega
  | n, l, hl, f + 1, 0, p, hf, hg => by omega
  | n, [], hl, f + 1, g + 1, p, hf, hg => by simp only [lex]
  | 0, c :: r, hl, f + 1, g + 1, p, hf, hg => by simp at hl
  | n + 1, c :: r, hl, f + 1, g + 1, p, hf, hg => by
    have hr : r.length ≤ n := by simpa using hl
    have ih : ∀ (m : Bytes) (q : Nat), m.length ≤ n → lex f q m = lex g q m := fun m q hm => lex_same n m hm f g q (by omega) (by omega)
    have hdrop : ∀ k : Nat, 1 ≤ k → ((c :: r).drop k).length ≤ n := fun k hk => by
      rw [List.length_drop, List.length_cons]
      omega
    simp only [lex]
    split
    · exact ih _ _ hr
    · split
      · exact ih _ _ (Nat.le_trans (dw_le _ _) hr)
      · split
        · rename_i h
          split
          · rfl
          · have q := tw_pos (p := goesOn) (c := c) (r := r) (by unfold goesOn; rw [h]; rfl)
            rw [ih _ _ (hdrop _ q)]
        · split
          · rename_i h
            have q := tw_pos (p := isDigit) (c := c) (r := r) h
            have e1 : ∀ q' : Nat, lex f q' ((c :: r).drop ((c :: r).takeWhile isDigit).length) = lex g q' ((c :: r).drop ((c :: r).takeWhile isDigit).length) := fun q' => ih _ _ (hdrop _ q)
            have e2 : ∀ q' k : Nat, lex f q' (((c :: r).drop ((c :: r).takeWhile isDigit).length).drop (1 + k)) = lex g q' (((c :: r).drop ((c :: r).takeWhile isDigit).length).drop (1 + k)) := fun q' k => ih _ _ (Nat.le_trans (drop_le _ _) (hdrop _ q))
            simp only [e1, e2]
          · split
            · rw [ih _ _ hr]
            · rfl
/-- the tokens from a place on -/
def lx (p : Nat) (l : Bytes) : Toks × Option Nat := lex (l.length + 1) p l
theorem lx_of {f p : Nat} {l : Bytes} (h : l.length < f) : lex f p l = lx p l := lex_same l.length l (Nat.le_refl _) f _ p h (Nat.lt_succ_self _)
theorem lx_nil (p : Nat) : lx p [] = ([], none) := rfl
theorem lx_blank {p : Nat} {c : UInt8} {r : Bytes} (h : c = 32 ∨ c = 10) : lx p (c :: r) = lx (p + 1) r := by
  show lex (r.length + 1 + 1) p (c :: r) = _
  simp only [lex]
  rw [if_pos h]
  exact lx_of (Nat.lt_succ_self _)
theorem lx_rem {p : Nat} {r : Bytes} : lx p (35 :: r) = lx (p + 1 + (r.length - (r.dropWhile fun (d : UInt8) => d != 10).length)) (r.dropWhile fun (d : UInt8) => d != 10) := by
  show lex (r.length + 1 + 1) p (35 :: r) = _
  simp only [lex]
  rw [if_neg (by decide), if_pos trivial]
  exact lx_of (Nat.lt_succ_of_le (dw_le _ _))
theorem lx_letter {p : Nat} {c : UInt8} {r : Bytes} (h : isLetter c = true) (h1 : ¬ (c = 32 ∨ c = 10)) (h2 : c ≠ 35) : lx p (c :: r) = if NAME < ((c :: r).takeWhile goesOn).length then ([], some p) else
    ((p, .name ((c :: r).takeWhile goesOn)) :: (lx (p + ((c :: r).takeWhile goesOn).length) ((c :: r).drop ((c :: r).takeWhile goesOn).length)).1, (lx (p + ((c :: r).takeWhile goesOn).length) ((c :: r).drop ((c :: r).takeWhile goesOn).length)).2) := by
  show lex (r.length + 1 + 1) p (c :: r) = _
  simp only [lex]
  rw [if_neg h1, if_neg h2, if_pos h]
  have q := tw_pos (p := goesOn) (c := c) (r := r) (by unfold goesOn; rw [h]; rfl)
  rw [lx_of (by rw [List.length_drop, List.length_cons]; omega)]
theorem lx_digit {p : Nat} {c : UInt8} {r : Bytes} (h : isDigit c = true) (h0 : isLetter c = false) (h1 : ¬ (c = 32 ∨ c = 10)) (h2 : c ≠ 35) (a s d : Bytes) (ea : a = (c :: r).takeWhile isDigit) (es : s = (c :: r).drop a.length)
    (ed : d = if s.headD 0 = 46 then (s.drop 1).takeWhile isDigit else []) : lx p (c :: r) = if DIGITS < a.length ∨ DIGITS < d.length then ([], some p) else
      if d = [] then ((p, numTok a []) :: (lx (p + a.length) s).1, (lx (p + a.length) s).2) else ((p, numTok a d) :: (lx (p + a.length + 1 + d.length) (s.drop (1 + d.length))).1, (lx (p + a.length + 1 + d.length) (s.drop (1 + d.length))).2) := by
  show lex (r.length + 1 + 1) p (c :: r) = _
  simp only [lex]
  rw [if_neg h1, if_neg h2, if_neg (by rw [h0]; exact Bool.false_ne_true), if_pos h, ← ea, ← es, ← ed]
  have q := tw_pos (p := isDigit) (c := c) (r := r) h
  rw [← ea] at q
  have hs : s.length < r.length + 1 := by rw [es, List.length_drop, List.length_cons]; omega
  rw [lx_of hs, lx_of (Nat.lt_of_le_of_lt (drop_le _ _) hs)]
theorem lx_sign {p : Nat} {c : UInt8} {r : Bytes} (h : signs.contains c = true) (h0 : isLetter c = false) (h3 : isDigit c = false) (h1 : ¬ (c = 32 ∨ c = 10)) (h2 : c ≠ 35) : lx p (c :: r) = ((p, .sign c) :: (lx (p + 1) r).1, (lx (p + 1) r).2) := by
  show lex (r.length + 1 + 1) p (c :: r) = _
  simp only [lex]
  rw [if_neg h1, if_neg h2, if_neg (by rw [h0]; exact Bool.false_ne_true), if_neg (by rw [h3]; exact Bool.false_ne_true), if_pos h, lx_of (Nat.lt_succ_self _)]
theorem lx_none {p : Nat} {c : UInt8} {r : Bytes} (h : signs.contains c = false) (h0 : isLetter c = false) (h3 : isDigit c = false) (h1 : ¬ (c = 32 ∨ c = 10)) (h2 : c ≠ 35) : lx p (c :: r) = ([], some p) := by
  show lex (r.length + 1 + 1) p (c :: r) = _
  simp only [lex]
  rw [if_neg h1, if_neg h2, if_neg (by rw [h0]; exact Bool.false_ne_true), if_neg (by rw [h3]; exact Bool.false_ne_true), if_neg (by rw [h]; exact Bool.false_ne_true)]

/-! ### blanks and remarks -/
/-- what's left behind blanks, line ends, remarks; true: within a remark -/
def skipB : Bool → Bytes → Bytes
  | _, [] => []
  | false, c :: r => if c = 32 ∨ c = 10 then skipB false r else if c = 35 then skipB true r else c :: r
  | true, c :: r => if c = 10 then skipB false r else skipB true r
theorem skipB_le : ∀ (b : Bool) (l : Bytes), (skipB b l).length ≤ l.length
  | _, [] => by cases ‹Bool› <;> exact Nat.le_refl _
  | false, c :: r => by
    have h1 := skipB_le false r
    have h2 := skipB_le true r
    simp only [skipB]
    split
    · exact Nat.le_succ_of_le h1
    · split
      · exact Nat.le_succ_of_le h2
      · exact Nat.le_refl _
  | true, c :: r => by
    have h1 := skipB_le false r
    have h2 := skipB_le true r
    simp only [skipB]
    split
    · exact Nat.le_succ_of_le h1
    · exact Nat.le_succ_of_le h2
theorem skipB_rem : ∀ r : Bytes, skipB true r = skipB false (r.dropWhile fun (d : UInt8) => d != 10)
  | [] => rfl
  | c :: r => by
    by_cases h : c = 10
    · subst h
      simp [skipB]
    · have q : (c != 10) = true := by simpa using h
      rw [List.dropWhile_cons, if_pos q, ← skipB_rem r]
      simp only [skipB]
      rw [if_neg h]
theorem skipB_twice : ∀ (b : Bool) (l : Bytes), skipB false (skipB b l) = skipB b l
  | _, [] => by cases ‹Bool› <;> rfl
  | false, c :: r => by
    have h1 := skipB_twice false r
    have h2 := skipB_twice true r
    by_cases h : c = 32 ∨ c = 10
    · have e : skipB false (c :: r) = skipB false r := by simp only [skipB]; rw [if_pos h]
      rw [e, h1]
    · by_cases h' : c = 35
      · have e : skipB false (c :: r) = skipB true r := by simp only [skipB]; rw [if_neg h, if_pos h']
        rw [e, h2]
      · have e : skipB false (c :: r) = c :: r := by simp only [skipB]; rw [if_neg h, if_neg h']
        rw [e, e]
  | true, c :: r => by
    have h1 := skipB_twice false r
    have h2 := skipB_twice true r
    by_cases h : c = 10
    · have e : skipB true (c :: r) = skipB false r := by simp only [skipB]; rw [if_pos h]
      rw [e, h1]
    · have e : skipB true (c :: r) = skipB true r := by simp only [skipB]; rw [if_neg h]
      rw [e, h2]
/-- what stands first there is no blank -/
theorem skipB_head : ∀ {b : Bool} {l : Bytes} {c : UInt8} {r : Bytes}, skipB b l = c :: r → ¬ (c = 32 ∨ c = 10) ∧ c ≠ 35
  | b, l, c, r, h => by
    have q := skipB_twice b l
    rw [h] at q
    simp only [skipB] at q
    have hr1 := skipB_le false r
    have hr2 := skipB_le true r
    by_cases h1 : c = 32 ∨ c = 10
    · rw [if_pos h1] at q
      rw [q, List.length_cons] at hr1
      omega
    · rw [if_neg h1] at q
      by_cases h2 : c = 35
      · rw [if_pos h2] at q
        rw [q, List.length_cons] at hr2
        omega
      · exact ⟨h1, h2⟩
theorem lx_skip : ∀ (n : Nat) (l : Bytes) (p : Nat), l.length ≤ n → lx p l = lx (p + (l.length - (skipB false l).length)) (skipB false l)
  | _, [], p, _ => rfl
  | 0, c :: r, p, h => by simp at h
  | n + 1, c :: r, p, h => by
    have hr : r.length ≤ n := by simpa using h
    by_cases h1 : c = 32 ∨ c = 10
    · have e : skipB false (c :: r) = skipB false r := by simp only [skipB]; rw [if_pos h1]
      rw [lx_blank h1, lx_skip n r _ hr, e]
      have q := skipB_le false r
      rw [List.length_cons, show p + 1 + (r.length - (skipB false r).length) = p + (r.length + 1 - (skipB false r).length) by omega]
    · by_cases h2 : c = 35
      · subst h2
        have e : skipB false (35 :: r) = skipB false (r.dropWhile fun (d : UInt8) => d != 10) := by
          rw [← skipB_rem]
          rfl
        have hd := dw_le (fun (d : UInt8) => d != 10) r
        rw [lx_rem, lx_skip n _ _ (Nat.le_trans hd hr), e]
        have q := skipB_le false (r.dropWhile fun (d : UInt8) => d != 10)
        rw [List.length_cons]
        congr 1
        omega
      · have e : skipB false (c :: r) = c :: r := by simp only [skipB]; rw [if_neg h1, if_neg h2]
        rw [e, Nat.sub_self, Nat.add_zero]

/-! ### bytes that no token holds: all one -/
def known (c : UInt8) : Bool := goesOn c || (signs.contains c || (c == 46 || (c == 35 || (c == 32 || c == 10))))
def kn (c : UInt8) : UInt8 := if known c = true then c else 63
theorem all_u8 {p : UInt8 → Prop} [DecidablePred p] (h : ∀ n : Fin 256, p (UInt8.ofNat n.val)) (c : UInt8) : p c := by
  have q := h ⟨c.toNat, c.toNat_lt⟩
  have e : UInt8.ofNat c.toNat = c := by simp
  rw [← e]
  exact q
theorem kn_goesOn : ∀ c : UInt8, goesOn (kn c) = goesOn c := all_u8 (p := fun c => goesOn (kn c) = goesOn c) (by decide +kernel)
theorem kn_digit : ∀ c : UInt8, isDigit (kn c) = isDigit c := all_u8 (p := fun c => isDigit (kn c) = isDigit c) (by decide +kernel)
theorem kn_letter : ∀ c : UInt8, isLetter (kn c) = isLetter c := all_u8 (p := fun c => isLetter (kn c) = isLetter c) (by decide +kernel)
theorem kn_sign : ∀ c : UInt8, signs.contains (kn c) = signs.contains c := all_u8 (p := fun c => signs.contains (kn c) = signs.contains c) (by decide +kernel)
theorem kn_ne10 : ∀ c : UInt8, (kn c != 10) = (c != 10) := all_u8 (p := fun c => (kn c != 10) = (c != 10)) (by decide +kernel)
theorem kn_id : ∀ c : UInt8, (goesOn c = true ∨ signs.contains c = true ∨ c = 46 ∨ c = 35 ∨ c = 32 ∨ c = 10) → kn c = c := all_u8 (p := fun c => (goesOn c = true ∨ signs.contains c = true ∨ c = 46 ∨ c = 35 ∨ c = 32 ∨ c = 10) → kn c = c) (by decide +kernel)
theorem kn_blank : ∀ c : UInt8, (kn c = 32 ∨ kn c = 10) ↔ (c = 32 ∨ c = 10) := all_u8 (p := fun c => (kn c = 32 ∨ kn c = 10) ↔ (c = 32 ∨ c = 10)) (by decide +kernel)
theorem kn_35 : ∀ c : UInt8, kn c = 35 ↔ c = 35 := all_u8 (p := fun c => kn c = 35 ↔ c = 35) (by decide +kernel)
theorem kn_46 : ∀ c : UInt8, kn c = 46 ↔ c = 46 := all_u8 (p := fun c => kn c = 46 ↔ c = 46) (by decide +kernel)
theorem tw_kn {p : UInt8 → Bool} (hp : ∀ c, p (kn c) = p c) (hk : ∀ c, p c = true → kn c = c) : ∀ l : Bytes, (l.map kn).takeWhile p = l.takeWhile p
  | [] => rfl
  | c :: r => by
    rw [List.map_cons, List.takeWhile_cons, List.takeWhile_cons, hp c, tw_kn hp hk r]
    split
    · rename_i h
      rw [hk c h]
    · rfl
theorem dw_kn {p : UInt8 → Bool} (hp : ∀ c, p (kn c) = p c) : ∀ l : Bytes, (l.map kn).dropWhile p = (l.dropWhile p).map kn
  | [] => rfl
  | c :: r => by
    rw [List.map_cons, List.dropWhile_cons, List.dropWhile_cons, hp c, dw_kn hp r]
    split
    · rfl
    · rfl
theorem headD_kn (l : Bytes) : (l.map kn).headD 0 = 46 ↔ l.headD 0 = 46 := by
  cases l with
  | nil => exact Iff.rfl
  | cons c r => exact kn_46 c
theorem digit_goesOn {c : UInt8} (h : isDigit c = true) : goesOn c = true := by unfold goesOn; rw [h, Bool.or_true]
theorem lex_kn : ∀ (f p : Nat) (l : Bytes), lex f p (l.map kn) = lex f p l
  | 0, _, _ => by simp only [lex]
  | f + 1, p, [] => by simp only [lex, List.map_nil]
  | f + 1, p, c :: r => by
    have ih := lex_kn f
    have eg : ((c :: r).map kn).takeWhile goesOn = (c :: r).takeWhile goesOn := tw_kn kn_goesOn (fun c h => kn_id c (.inl h)) _
    have ed : ∀ l : Bytes, (l.map kn).takeWhile isDigit = l.takeWhile isDigit := tw_kn kn_digit (fun c h => kn_id c (.inl (digit_goesOn h)))
    rw [List.map_cons] at eg ⊢
    have edc := ed (c :: r)
    rw [List.map_cons] at edc
    simp only [lex]
    rw [kn_letter, kn_digit, kn_sign, eg, edc, dw_kn kn_ne10, List.length_map, List.length_map]
    simp only [kn_blank, kn_35, ih]
    have edr : ∀ k : Nat, (kn c :: r.map kn).drop k = ((c :: r).drop k).map kn := fun k => by rw [← List.map_cons, List.map_drop]
    simp only [edr, ih, headD_kn, ← List.map_drop, ed]
    by_cases h : signs.contains c = true
    · rw [kn_id c (.inr (.inl h))]
    · have h' : signs.contains c = false := by simpa using h
      simp only [h', Bool.false_eq_true, if_false]
theorem lx_kn (p : Nat) (l : Bytes) : lx p (l.map kn) = lx p l := by
  show lex ((l.map kn).length + 1) p (l.map kn) = _
  rw [List.length_map]
  exact lex_kn _ _ _
end SD
set_option Elab.async false
/-! # Numbers' texts; what a token is -/
namespace SD
open SeamNum SeamPoly SeamPattern SeamText

/-! ### digits -/
def dg (c : UInt8) : Nat := c.toNat - 48
theorem isDigit_iff {c : UInt8} (h : isDigit c = true) : 48 ≤ c.toNat ∧ c.toNat ≤ 57 := by
  unfold isDigit at h
  simp only [Bool.and_eq_true, decide_eq_true_eq, UInt8.le_iff_toNat_le] at h
  exact h
theorem dg_lt {c : UInt8} (h : isDigit c = true) : dg c < 10 := by
  have q := isDigit_iff h
  unfold dg
  omega
theorem decimal_dg {c : UInt8} : isDigit c = true → decimal (dg c) = [c] := all_u8 (p := fun c => isDigit c = true → decimal (dg c) = [c]) (by decide +kernel) c
theorem decimal_step {n : Nat} {c : UInt8} (hn : 0 < n) (h : isDigit c = true) : decimal (10 * n + dg c) = decimal n ++ [c] := by
  have q := Nat.toDigits_append_toDigits (b := 10) (n := n) (d := dg c) (by decide) hn (dg_lt h)
  unfold decimal
  rw [← q, List.map_append]
  have z := decimal_dg h
  unfold decimal at z
  rw [z]
def step10 (n : Nat) (c : UInt8) : Nat := 10 * n + (c.toNat - 48)
theorem natOf_fold (b : Bytes) : natOf b = b.foldl step10 0 := rfl
theorem decimal_fold : ∀ (a : Bytes) (n : Nat), 0 < n → (∀ c ∈ a, isDigit c = true) → decimal (a.foldl step10 n) = decimal n ++ a
  | [], n, _, _ => by simp
  | c :: r, n, hn, h => by
    have hc := h c (List.mem_cons_self ..)
    rw [List.foldl_cons, decimal_fold r _ (by unfold step10; omega) fun x hx => h x (List.mem_cons_of_mem _ hx)]
    show decimal (10 * n + dg c) ++ r = _
    rw [decimal_step hn hc, List.append_assoc]
    rfl
/-- digits without the noughts in front -/
def noNull (a : Bytes) : Bytes := a.dropWhile fun (c : UInt8) => c == 48
def orNull (w : Bytes) : Bytes := if w = [] then [48] else w
theorem decimal_natOf : ∀ a : Bytes, (∀ c ∈ a, isDigit c = true) → decimal (natOf a) = orNull (noNull a)
  | [], _ => by decide +kernel
  | c :: r, h => by
    have hc := h c (List.mem_cons_self ..)
    have hr := fun x hx => h x (List.mem_cons_of_mem _ hx)
    by_cases e : c = 48
    · subst e
      have q := decimal_natOf r hr
      have e1 : natOf (48 :: r) = natOf r := rfl
      have e2 : noNull (48 :: r) = noNull r := by
        unfold noNull
        rw [List.dropWhile_cons, if_pos (beq_self_eq_true _)]
      rw [e1, e2, q]
    · have e2 : noNull (c :: r) = c :: r := by
        unfold noNull
        rw [List.dropWhile_cons, if_neg (by simpa using e)]
      have hpos : 0 < dg c := by
        have q := isDigit_iff hc
        unfold dg
        have : c.toNat ≠ 48 := fun z => e (UInt8.toNat_inj.mp z)
        omega
      have e1 : natOf (c :: r) = r.foldl step10 (dg c) := by
        show r.foldl step10 (10 * 0 + dg c) = _
        rw [Nat.mul_zero, Nat.zero_add]
      rw [e1, decimal_fold r _ hpos hr, decimal_dg hc, e2]
      rfl
theorem natOf_snoc (a : Bytes) (c : UInt8) : natOf (a ++ [c]) = 10 * natOf a + dg c := by
  rw [natOf_fold, List.foldl_append]
  rfl
theorem fold_app : ∀ (d : Bytes) (n : Nat), d.foldl step10 n = n * 10 ^ d.length + natOf d
  | [], n => by simp [natOf]
  | c :: r, n => by
    have q := fold_app r (step10 0 c)
    have e : natOf (c :: r) = step10 0 c * 10 ^ r.length + natOf r := q
    have e0 : step10 0 c = dg c := by show 10 * 0 + dg c = dg c; omega
    rw [List.foldl_cons, fold_app r, List.length_cons, e, e0]
    show (10 * n + dg c) * 10 ^ r.length + natOf r = _
    rw [Nat.pow_succ, Nat.add_mul, Nat.mul_comm 10 n, Nat.mul_assoc, Nat.mul_comm 10 (10 ^ r.length)]
    omega
theorem natOf_app (a d : Bytes) : natOf (a ++ d) = natOf a * 10 ^ d.length + natOf d := by
  rw [natOf_fold, List.foldl_append, fold_app]
  rfl
theorem natOf_lt : ∀ d : Bytes, (∀ c ∈ d, isDigit c = true) → natOf d < 10 ^ d.length
  | [], _ => by decide
  | c :: r, h => by
    have hc := dg_lt (h c (List.mem_cons_self ..))
    have ih := natOf_lt r fun x hx => h x (List.mem_cons_of_mem _ hx)
    have e : natOf (c :: r) = dg c * 10 ^ r.length + natOf r := by
      have q := fold_app r (step10 0 c)
      have e0 : step10 0 c = dg c := by show 10 * 0 + dg c = dg c; omega
      rw [e0] at q
      rw [← e0] at q
      have z : natOf (c :: r) = step10 0 c * 10 ^ r.length + natOf r := by rw [← e0] at *; exact q
      rw [z, e0]
    rw [e, List.length_cons, Nat.pow_succ]
    have : dg c * 10 ^ r.length + 10 ^ r.length ≤ 10 * 10 ^ r.length := by
      rw [← Nat.succ_mul]
      exact Nat.mul_le_mul_right _ hc
    omega
theorem dw_null : ∀ d : Bytes, d = List.replicate (d.length - (noNull d).length) 48 ++ noNull d
  | [] => rfl
  | c :: r => by
    by_cases e : c = 48
    · subst e
      have e2 : noNull (48 :: r) = noNull r := by
        unfold noNull
        rw [List.dropWhile_cons, if_pos (beq_self_eq_true _)]
      have q := dw_null r
      have hl : (noNull r).length ≤ r.length := dw_le _ _
      rw [e2, List.length_cons, show r.length + 1 - (noNull r).length = (r.length - (noNull r).length) + 1 by omega, List.replicate_succ, List.cons_append, ← q]
    · have e2 : noNull (c :: r) = c :: r := by
        unfold noNull
        rw [List.dropWhile_cons, if_neg (by simpa using e)]
      rw [e2, Nat.sub_self]
      rfl
/-- the digits behind the point, filled up -/
theorem pad_null {d : Bytes} (hd : d ≠ []) (h : ∀ c ∈ d, isDigit c = true) : List.replicate (d.length - (decimal (natOf d)).length) 48 ++ decimal (natOf d) = d := by
  rw [decimal_natOf d h]
  have q := dw_null d
  by_cases e : noNull d = []
  · unfold orNull
    rw [if_pos e]
    rw [e, List.length_nil, Nat.sub_zero, List.append_nil] at q
    have hl : 0 < d.length := by
      cases d with
      | nil => exact absurd rfl hd
      | cons c r => simp
    rw [show ([48] : Bytes).length = 1 from rfl]
    have e3 : List.replicate (d.length - 1) (48 : UInt8) ++ [48] = List.replicate d.length 48 := by
      rw [← List.replicate_succ', show d.length - 1 + 1 = d.length by omega]
    rw [e3, ← q]
  · unfold orNull
    rw [if_neg e]
    exact q.symm
/-- digits without the noughts behind -/
def noTail (d : Bytes) : Bytes := (noNull d.reverse).reverse
theorem fewest_rev (a : Bytes) : ∀ e : Bytes, (∀ c ∈ e, isDigit c = true) → fewest (natOf (a ++ e.reverse)) e.length = (natOf (a ++ (noNull e).reverse), (noNull e).length)
  | [], _ => by simp [fewest, noNull]
  | c :: r, h => by
    have hc := h c (List.mem_cons_self ..)
    have hr := fun x hx => h x (List.mem_cons_of_mem _ hx)
    have e1 : natOf (a ++ (c :: r).reverse) = 10 * natOf (a ++ r.reverse) + dg c := by
      rw [List.reverse_cons, ← List.append_assoc, natOf_snoc]
    have hd := dg_lt hc
    have e3 : (10 * natOf (a ++ r.reverse) + dg c) % 10 = dg c := by omega
    have e4 : (10 * natOf (a ++ r.reverse) + dg c) / 10 = natOf (a ++ r.reverse) := by omega
    rw [e1, List.length_cons]
    simp only [fewest]
    rw [e3, e4]
    by_cases e : c = 48
    · subst e
      have e2 : noNull (48 :: r) = noNull r := by
        unfold noNull
        rw [List.dropWhile_cons, if_pos (beq_self_eq_true _)]
      rw [if_pos (show dg 48 = 0 from rfl), fewest_rev a r hr, e2]
    · have e2 : noNull (c :: r) = c :: r := by
        unfold noNull
        rw [List.dropWhile_cons, if_neg (by simpa using e)]
      have hne : dg c ≠ 0 := by
        have q := isDigit_iff hc
        unfold dg
        have : c.toNat ≠ 48 := fun z => e (UInt8.toNat_inj.mp z)
        omega
      rw [if_neg hne, e2, e1, List.length_cons]
theorem fewest_is {a d : Bytes} (h : ∀ c ∈ d, isDigit c = true) : fewest (natOf (a ++ d)) d.length = (natOf (a ++ noTail d), (noTail d).length) := by
  have q := fewest_rev a d.reverse (fun c hc => h c (List.mem_reverse.mp hc))
  rw [List.reverse_reverse, List.length_reverse] at q
  rw [q]
  unfold noTail
  rw [List.length_reverse]
theorem mem_noNull {a : Bytes} {c : UInt8} (h : c ∈ noNull a) : c ∈ a := by
  have q := dw_null a
  rw [q]
  exact List.mem_append.mpr (.inr h)
theorem mem_noTail {a : Bytes} {c : UInt8} (h : c ∈ noTail a) : c ∈ a := List.mem_reverse.mp (mem_noNull (List.mem_reverse.mp h))
/-- a number's digits, as few as tell it -/
def plain (w d : Bytes) : Bytes := if noTail d = [] then orNull (noNull w) else orNull (noNull w) ++ (46 :: noTail d)
theorem plain_is {a d : Bytes} (ha : ∀ c ∈ a, isDigit c = true) (hd : ∀ c ∈ d, isDigit c = true) : pointText (fewest (natOf (a ++ d)) d.length).1 (fewest (natOf (a ++ d)) d.length).2 = plain a d := by
  rw [fewest_is hd]
  unfold pointText plain
  by_cases e : noTail d = []
  · rw [if_pos e]
    simp only [e, List.length_nil, if_true, List.append_nil]
    exact decimal_natOf a ha
  · have hl : (noTail d).length ≠ 0 := fun z => e (List.length_eq_zero_iff.mp z)
    have ht : ∀ c ∈ noTail d, isDigit c = true := fun c hc => hd c (mem_noTail hc)
    rw [if_neg hl, if_neg e, natOf_app]
    have hlt := natOf_lt (noTail d) ht
    have hp : 0 < 10 ^ (noTail d).length := Nat.pow_pos (by decide)
    have e1 : (natOf a * 10 ^ (noTail d).length + natOf (noTail d)) / 10 ^ (noTail d).length = natOf a := by
      rw [Nat.mul_comm, Nat.mul_add_div hp, Nat.div_eq_of_lt hlt, Nat.add_zero]
    have e2 : (natOf a * 10 ^ (noTail d).length + natOf (noTail d)) % 10 ^ (noTail d).length = natOf (noTail d) := by
      rw [Nat.mul_comm, Nat.mul_add_mod, Nat.mod_eq_of_lt hlt]
    simp only [e1, e2]
    rw [decimal_natOf a ha, pad_null e ht]

/-! ### what a token is -/
def sName : Bytes := ascii "name"
def sNumber : Bytes := ascii "number"
def sBad : Bytes := ascii "bad"
def sEnd : Bytes := ascii "end"
def WORDSB : List Bytes := [ascii "let", ascii "point", ascii "piece", ascii "seam", ascii "grain", ascii "x", ascii "y", ascii "min", ascii "max", ascii "between", ascii "meet", ascii "foot", ascii "mirror", ascii "turn", ascii "shift"]
theorem ofSums_some {b : Bytes} : (ofSums b).isSome = [ascii "x", ascii "y", ascii "min", ascii "max"].contains b := by
  unfold ofSums fnOf
  rw [List.isSome_find?]
  have e : List.range 4 = [0, 1, 2, 3] := rfl
  rw [e]
  simp only [List.any_cons, List.any_nil, List.contains_cons, List.contains_nil]
  have e0 : wordOf 0 = ascii "x" := rfl
  have e1 : wordOf 1 = ascii "y" := rfl
  have e2 : wordOf 2 = ascii "min" := rfl
  have e3 : wordOf 3 = ascii "max" := rfl
  rw [e0, e1, e2, e3]
  simp only [Nat.zero_le, decide_true, Bool.true_and]
  simp only [Bool.beq_comm (a := b)]
end SD
set_option Elab.async false
namespace SD
open SeamNum SeamPoly SeamPattern SeamText

def fracOf (s : Bytes) : Bytes := if s.headD 0 = 46 then (s.drop 1).takeWhile isDigit else []
def wholeOf (l : Bytes) : Bytes := l.takeWhile isDigit
/-- how long the token is that begins l -/
def tokLen (l : Bytes) : Nat := if isLetter (l.headD 0) = true then (l.takeWhile goesOn).length else if isDigit (l.headD 0) = true then
  (if fracOf (l.drop (wholeOf l).length) = [] then (wholeOf l).length else (wholeOf l).length + 1 + (fracOf (l.drop (wholeOf l).length)).length) else 1
def kindName (b : Bytes) : Bytes := if isWord b = true then b else if b.length ≤ 16 then sName else sBad
def kindNum (a d : Bytes) : Bytes := if a.length ≤ 18 ∧ d.length ≤ 18 then sNumber else sBad
def kindSign (c : UInt8) : Bytes := if signs.contains c = true then [c] else sBad
def kindL (l : Bytes) : Bytes := if isLetter (l.headD 0) = true then kindName (l.takeWhile goesOn) else if isDigit (l.headD 0) = true then kindNum (wholeOf l) (fracOf (l.drop (wholeOf l).length)) else kindSign (l.headD 0)
/-- x is the digits a, or these, a point, the digits d -/
structure NumText (x a d : Bytes) : Prop where
  ha : ∀ c ∈ a, isDigit c = true
  hd : ∀ c ∈ d, isDigit c = true
  ne : a ≠ []
  is : x = if d = [] then a else a ++ (46 :: d)
/-- the program's token (kind, text) is the words' token -/
def TokR (k x : Bytes) : Tok → Prop
  | .name b => x = b ∧ k = (if isWord b = true then b else sName) ∧ x.length ≤ 37
  | .num n j => k = sNumber ∧ x.length ≤ 37 ∧ ∃ a d, NumText x a d ∧ pointText n j = plain a d
  | .sign c => x = [c] ∧ k = [c] ∧ signs.contains c = true
theorem tw_all {p : UInt8 → Bool} : ∀ l : Bytes, ∀ c ∈ l.takeWhile p, p c = true
  | [], c, h => by simp at h
  | x :: r, c, h => by
    rw [List.takeWhile_cons] at h
    split at h
    · rename_i hx
      rcases List.mem_cons.mp h with e | m
      · rw [e]
        exact hx
      · exact tw_all r c m
    · simp at h
theorem tw_take {p : UInt8 → Bool} : ∀ l : Bytes, l.take (l.takeWhile p).length = l.takeWhile p
  | [] => rfl
  | x :: r => by
    rw [List.takeWhile_cons]
    split
    · rw [List.length_cons, List.take_succ_cons, tw_take r]
    · rfl
theorem tw_len {p : UInt8 → Bool} : ∀ l : Bytes, (l.takeWhile p).length ≤ l.length
  | [] => Nat.le_refl _
  | x :: r => by
    rw [List.takeWhile_cons]
    split
    · exact Nat.succ_le_succ (tw_len r)
    · exact Nat.zero_le _
theorem words_short {b : Bytes} (h : isWord b = true) : b.length ≤ 7 := by
  unfold isWord at h
  simp only [Bool.or_eq_true] at h
  rcases h with h | h | h
  · rw [List.contains_iff_mem] at h
    simp only [List.mem_cons, List.not_mem_nil, or_false] at h
    rcases h with h | h | h | h | h <;> rw [h] <;> decide +kernel
  · rw [ofSums_some, List.contains_iff_mem] at h
    simp only [List.mem_cons, List.not_mem_nil, or_false] at h
    rcases h with h | h | h | h <;> rw [h] <;> decide +kernel
  · unfold ofPlaces fnOf at h
    rw [List.isSome_find?, List.any_eq_true] at h
    obtain ⟨f, hf, q⟩ := h
    rw [Bool.and_eq_true] at q
    have q2 : wordOf f = b := by simpa using q.2
    rw [← q2]
    have hf' : f < 11 := List.mem_range.mp hf
    have all : ∀ g : Fin 11, (wordOf g.val).length ≤ 7 := by decide +kernel
    exact all ⟨f, hf'⟩
theorem kindName_bad {b : Bytes} (hb : kindName b = sBad) : NAME < b.length := by
  unfold kindName at hb
  by_cases w : isWord b = true
  · rw [if_pos w] at hb
    rw [hb] at w
    exact absurd w (by decide +kernel)
  · rw [if_neg w] at hb
    by_cases z : b.length ≤ 16
    · rw [if_pos z] at hb
      exact absurd hb (by decide +kernel)
    · show 16 < b.length
      omega
theorem tok_at {p : Nat} {c : UInt8} {r : Bytes} (h1 : ¬ (c = 32 ∨ c = 10)) (h2 : c ≠ 35) : 1 ≤ tokLen (c :: r) ∧ tokLen (c :: r) ≤ (c :: r).length ∧
    ((kindL (c :: r) = sBad ∧ lx p (c :: r) = ([], some p)) ∨ (kindL (c :: r) ≠ sBad ∧ ∃ tok, TokR (kindL (c :: r)) ((c :: r).take (tokLen (c :: r))) tok ∧
      lx p (c :: r) = ((p, tok) :: (lx (p + tokLen (c :: r)) ((c :: r).drop (tokLen (c :: r)))).1, (lx (p + tokLen (c :: r)) ((c :: r).drop (tokLen (c :: r)))).2))) := by
  by_cases hL : isLetter c = true
  · have eT : tokLen (c :: r) = ((c :: r).takeWhile goesOn).length := by
      unfold tokLen
      rw [List.headD_cons, if_pos hL]
    have eK : kindL (c :: r) = kindName ((c :: r).takeWhile goesOn) := by
      unfold kindL
      rw [List.headD_cons, if_pos hL]
    have pos := tw_pos (p := goesOn) (c := c) (r := r) (by unfold goesOn; rw [hL]; rfl)
    refine ⟨by rw [eT]; exact pos, by rw [eT]; exact tw_len _, ?_⟩
    rw [lx_letter hL h1 h2]
    by_cases hb : kindL (c :: r) = sBad
    · rw [eK] at hb
      rw [if_pos (kindName_bad hb)]
      exact .inl ⟨by rw [eK]; exact hb, rfl⟩
    · have hb' := hb
      rw [eK] at hb'
      have hle : ((c :: r).takeWhile goesOn).length ≤ 16 ∧ kindName ((c :: r).takeWhile goesOn) = (if isWord ((c :: r).takeWhile goesOn) = true then ((c :: r).takeWhile goesOn) else sName) := by
        generalize (c :: r).takeWhile goesOn = b at hb'
        unfold kindName at hb' ⊢
        by_cases w : isWord b = true
        · rw [if_pos w, if_pos w]
          exact ⟨Nat.le_trans (words_short w) (by decide), rfl⟩
        · rw [if_neg w] at hb' ⊢
          rw [if_neg w]
          by_cases z : b.length ≤ 16
          · exact ⟨z, if_pos z⟩
          · rw [if_neg z] at hb'
            exact absurd rfl hb'
      rw [if_neg (by show ¬ 16 < _; omega)]
      refine .inr ⟨hb, _, ?_, by rw [eT]⟩
      rw [eT, tw_take, eK, hle.2]
      exact ⟨rfl, rfl, by omega⟩
  · have hL' : isLetter c = false := by simpa using hL
    by_cases hD : isDigit c = true
    · have eT : tokLen (c :: r) = (if fracOf ((c :: r).drop (wholeOf (c :: r)).length) = [] then (wholeOf (c :: r)).length else (wholeOf (c :: r)).length + 1 + (fracOf ((c :: r).drop (wholeOf (c :: r)).length)).length) := by
        unfold tokLen
        rw [List.headD_cons, if_neg hL, if_pos hD]
      have eK : kindL (c :: r) = kindNum (wholeOf (c :: r)) (fracOf ((c :: r).drop (wholeOf (c :: r)).length)) := by
        unfold kindL
        rw [List.headD_cons, if_neg hL, if_pos hD]
      have pos : 1 ≤ (wholeOf (c :: r)).length := tw_pos hD
      have lenA : (wholeOf (c :: r)).length ≤ (c :: r).length := tw_len _
      have tkA : (c :: r).take (wholeOf (c :: r)).length = wholeOf (c :: r) := tw_take _
      have allA : ∀ x ∈ wholeOf (c :: r), isDigit x = true := tw_all _
      have hx := lx_digit (p := p) hD hL' h1 h2 (wholeOf (c :: r)) ((c :: r).drop (wholeOf (c :: r)).length) (fracOf ((c :: r).drop (wholeOf (c :: r)).length)) rfl rfl rfl
      generalize (c :: r) = l at *
      generalize ea : wholeOf l = a at *
      have allD : ∀ x ∈ fracOf (l.drop a.length), isDigit x = true := by
        unfold fracOf
        split
        · exact tw_all _
        · intro x hx
          simp at hx
      have whole : (fracOf (l.drop a.length) = [] → l.take a.length = a) ∧ (fracOf (l.drop a.length) ≠ [] → l.take (a.length + 1 + (fracOf (l.drop a.length)).length) = a ++ (46 :: fracOf (l.drop a.length)) ∧ a.length + 1 + (fracOf (l.drop a.length)).length ≤ l.length) := by
        refine ⟨fun _ => tkA, fun hne => ?_⟩
        unfold fracOf at hne ⊢
        by_cases h46 : (l.drop a.length).headD 0 = 46
        · rw [if_pos h46] at hne ⊢
          have q1 : (l.drop a.length).drop 1 = l.drop (a.length + 1) := by rw [List.drop_drop]
          rw [q1] at hne ⊢
          have hlen := tw_len (p := isDigit) (l.drop (a.length + 1))
          have hne2 : a.length < l.length := by
            by_cases z : a.length < l.length
            · exact z
            · rw [List.drop_eq_nil_of_le (by omega)] at hne
              simp at hne
          have q2 : l.drop a.length = 46 :: l.drop (a.length + 1) := by
            have z := List.drop_eq_getElem_cons hne2
            rw [z] at h46 ⊢
            rw [List.headD_cons] at h46
            rw [h46]
          rw [List.length_drop] at hlen
          refine ⟨?_, by omega⟩
          have e : l = a ++ (46 :: l.drop (a.length + 1)) := by
            rw [← q2]
            conv => lhs; rw [← List.take_append_drop a.length l, tkA]
          have e2 : a.length + 1 + ((l.drop (a.length + 1)).takeWhile isDigit).length = a.length + (((l.drop (a.length + 1)).takeWhile isDigit).length + 1) := by omega
          rw [e2]
          conv => lhs; rw [e]
          rw [List.take_length_add_append, List.take_succ_cons]
          have e3 : (a ++ 46 :: l.drop (a.length + 1)).drop (a.length + 1) = l.drop (a.length + 1) := by rw [← e]
          rw [e3, tw_take]
        · rw [if_neg h46] at hne
          exact absurd rfl hne
      generalize fracOf (l.drop a.length) = d at *
      have hneA : a ≠ [] := fun z => by rw [z] at pos; simp at pos
      refine ⟨?_, ?_, ?_⟩
      · rw [eT]
        split <;> omega
      · rw [eT]
        split
        · exact lenA
        · rename_i hne
          exact (whole.2 hne).2
      · rw [hx]
        by_cases hb : a.length ≤ 18 ∧ d.length ≤ 18
        · have eK2 : kindL l = sNumber := by rw [eK]; exact if_pos hb
          rw [if_neg (by show ¬ (18 < _ ∨ 18 < _); omega)]
          refine .inr ⟨by rw [eK2]; decide +kernel, ?_⟩
          by_cases hde : d = []
          · rw [if_pos hde] at eT ⊢
            refine ⟨_, ?_, by rw [eT]⟩
            rw [eT, tkA, eK2]
            refine ⟨rfl, by omega, a, [], ⟨allA, fun x hx => absurd hx (by simp), hneA, by rw [if_pos rfl]⟩, ?_⟩
            have z := plain_is (a := a) (d := []) allA (fun x hx => absurd hx (by simp))
            exact z
          · rw [if_neg hde] at eT ⊢
            have w := whole.2 hde
            have z1 : p + a.length + 1 + d.length = p + tokLen l := by rw [eT]; omega
            have z2 : (l.drop a.length).drop (1 + d.length) = l.drop (tokLen l) := by
              rw [List.drop_drop, eT]
              congr 1
              omega
            rw [z1, z2]
            refine ⟨_, ?_, rfl⟩
            rw [eT, w.1, eK2]
            refine ⟨rfl, by rw [List.length_append, List.length_cons]; omega, a, d, ⟨allA, allD, hneA, by rw [if_neg hde]⟩, ?_⟩
            exact plain_is allA allD
        · have eK2 : kindL l = sBad := by rw [eK]; exact if_neg hb
          rw [if_pos (by show 18 < _ ∨ 18 < _; omega)]
          exact .inl ⟨eK2, rfl⟩
    · have hD' : isDigit c = false := by simpa using hD
      have eT : tokLen (c :: r) = 1 := by
        unfold tokLen
        rw [List.headD_cons, if_neg hL, if_neg hD]
      have eK : kindL (c :: r) = kindSign c := by
        unfold kindL
        rw [List.headD_cons, if_neg hL, if_neg hD]
      refine ⟨by omega, by rw [eT, List.length_cons]; omega, ?_⟩
      by_cases hs : signs.contains c = true
      · rw [lx_sign hs hL' hD' h1 h2]
        have eK2 : kindL (c :: r) = [c] := by rw [eK]; exact if_pos hs
        refine .inr ⟨?_, .sign c, ?_, by rw [eT]; rfl⟩
        · rw [eK2]
          intro z
          have q := congrArg List.length z
          have q2 : sBad.length = 3 := by decide +kernel
          rw [q2] at q
          cases q
        · rw [eT, eK2]
          exact ⟨rfl, rfl, hs⟩
      · rw [lx_none (by simpa using hs) hL' hD' h1 h2]
        exact .inl ⟨by rw [eK]; exact if_neg hs, rfl⟩
end SD
set_option Elab.async false
set_option linter.all false
set_option maxRecDepth 100000
set_option maxHeartbeats 4000000
/-! # Texts, bytes -/
namespace SDP
open PySem PySem.Spec PyProof.Rows L2 SDX SD TL
open SeamNum (Bytes)
open SeamText (goesOn isLetter)
open SeamPattern (isDigit)
def tx (b : Bytes) : Str := ⟨(b.map UInt8.toNat).toArray⟩
theorem tx_len (b : Bytes) : (tx b).length = b.length := by
  show ((b.map UInt8.toNat).toArray).size = _
  simp
theorem tx_get {b : Bytes} {i : Nat} {c : UInt8} (h : b[i]? = some c) : (tx b).cps[i]? = some c.toNat := by
  show ((b.map UInt8.toNat).toArray)[i]? = _
  simp [h]
theorem tx_one (c : UInt8) : (⟨#[c.toNat]⟩ : Str) = tx [c] := rfl
theorem tx_inj {a b : Bytes} (h : tx a = tx b) : a = b := by
  have q := congrArg (fun s => s.cps.toList) h
  have q' : a.map UInt8.toNat = b.map UInt8.toNat := by simpa [tx] using q
  exact (List.map_inj_right fun x y => UInt8.toNat_inj.mp).mp q'
theorem txt_line {b : Bytes} (h : b.length ≤ 5000) : (tx b).length ≤ sizeLine := by
  rw [tx_len, sizeLine_eq]
  omega
theorem is_alnum : ∀ c : UInt8, c.toNat < 128 → Txt.isalnum ⟨#[c.toNat]⟩ = goesOn c := all_u8 (p := fun c => c.toNat < 128 → Txt.isalnum ⟨#[c.toNat]⟩ = goesOn c) (by decide +kernel)
theorem is_digit : ∀ c : UInt8, c.toNat < 128 → Txt.isdigit ⟨#[c.toNat]⟩ = isDigit c := all_u8 (p := fun c => c.toNat < 128 → Txt.isdigit ⟨#[c.toNat]⟩ = isDigit c) (by decide +kernel)
theorem is_alpha : ∀ c : UInt8, c.toNat < 128 → Txt.isalpha ⟨#[c.toNat]⟩ = isLetter c := all_u8 (p := fun c => c.toNat < 128 → Txt.isalpha ⟨#[c.toNat]⟩ = isLetter c) (by decide +kernel)
theorem drop_suf {l m : Bytes} (h : l <:+ m) : m.drop (m.length - l.length) = l := (List.suffix_iff_eq_drop.mp h).symm
theorem drop_cons {l : Bytes} {i : Nat} {c : UInt8} (h : l[i]? = some c) : l.drop i = c :: l.drop (i + 1) := by
  obtain ⟨hi, e⟩ := List.getElem?_eq_some_iff.mp h
  rw [List.drop_eq_getElem_cons hi, e]
theorem get_of {tb : Bytes} {i : Nat} (h : i < tb.length) : ∃ c, tb[i]? = some c ∧ c ∈ tb := ⟨tb[i], List.getElem?_eq_getElem h, List.getElem_mem h⟩
theorem cut_nat {tb : Bytes} {i j : Nat} (hij : i ≤ j) : cutS (tx tb) (some (i : Int)) (some (j : Int)) = tx ((tb.drop i).take (j - i)) := by
  unfold cutS
  rw [tx_len, HT.sIx_nat, HT.sIx_nat]
  have e : (tx tb).cps.toList = tb.map UInt8.toNat := rfl
  rw [e]
  unfold tx
  rw [List.map_take, List.map_drop]
  have key : ∀ l : List Nat, l.length = tb.length → (l.drop (min i tb.length)).take (min j tb.length - min i tb.length) = (l.drop i).take (j - i) := fun l hl => by
    by_cases h1 : i ≤ tb.length
    · rw [Nat.min_eq_left h1]
      by_cases h2 : j ≤ tb.length
      · rw [Nat.min_eq_left h2]
      · rw [Nat.min_eq_right (by omega), List.take_of_length_le (by rw [List.length_drop]; omega), List.take_of_length_le (by rw [List.length_drop]; omega)]
    · rw [Nat.min_eq_right (by omega), Nat.min_eq_right (by omega), List.drop_eq_nil_of_le (by omega), List.drop_eq_nil_of_le (by omega)]
      simp
  rw [key _ (by rw [List.length_map])]
/-- a name of the top that is a text, a number -/
def Gs (mg : Str → Option Value) (x : Str) (b : Bytes) : Prop := ∃ t, mg x = some (.str (tx b) t)
def Gi (mg : Str → Option Value) (x : Str) (n : Int) : Prop := ∃ t, mg x = some (.int n t)
/-- .. a tuple of texts -/
def Gt (K : PySem.W.Frag) (mg : Str → Option Value) (x : Str) (l : List Bytes) : Prop := ∃ a, mg x = some (.ref a) ∧ ∀ H, SqT K H a (l.map fun b => V.str (tx b))
section
variable {X : Cx} {x : Str} {pos : Pos}
theorem pe_gs {b : Bytes} (hg : Gl X x) (h : Gs X.mg x b) (hd : (x == ("__debug__" : Str)) = false := by decide) : PE X (.Name x pos) (tC (.str (tx b))) := by
  obtain ⟨t, h⟩ := h
  exact pe_glob (v := .str (tx b)) hg h ⟨t, rfl⟩ hd
theorem pe_gi {n : Int} (hg : Gl X x) (h : Gi X.mg x n) (hd : (x == ("__debug__" : Str)) = false := by decide) : PE X (.Name x pos) (tC (.int n)) := by
  obtain ⟨t, h⟩ := h
  exact pe_glob (v := .int n) hg h ⟨t, rfl⟩ hd
theorem pe_gr {a : Addr} (hg : Gl X x) (h : X.mg x = some (.ref a)) (hd : (x == ("__debug__" : Str)) = false := by decide) : PE X (.Name x pos) (tC (.ref a)) :=
  pe_glob (v := .ref a) hg h rfl hd
end
theorem inV_tx (b : Bytes) : ∀ l : List Bytes, inV (.str (tx b)) (l.map fun b => V.str (tx b)) = l.contains b
  | [] => rfl
  | c :: r => by
    have ih := inV_tx b r
    unfold inV at ih ⊢
    rw [List.map_cons, List.any_cons, ih, List.contains_cons]
    congr 1
    show (tx c == tx b) = (b == c)
    by_cases e : c = b
    · subst e
      simp
    · have e2 : tx c ≠ tx b := fun z => e (tx_inj z)
      have e3 : b ≠ c := fun z => e z.symm
      rw [beq_eq_false_iff_ne.mpr e2, beq_eq_false_iff_ne.mpr e3]
theorem flat_tx (l : List Bytes) : (l.map fun b => V.str (tx b)).all flatV = true := by
  rw [List.all_eq_true]
  intro v hv
  obtain ⟨b, _, rfl⟩ := List.mem_map.mp hv
  rfl
def KNOWNB : Bytes := SeamNum.ascii "ABCDEFGHIJKLMNOPQRSTUVWXYZabcdefghijklmnopqrstuvwxyz0123456789(),=+-*/;.# \n"
def knKV : List (Key × V) := KNOWNB.map fun c => (Sum.inl (c.toNat : Int), V.str (tx [c]))
theorem kn_get : ∀ c : UInt8, ((valV (mergeK [] knKV) (Sum.inl (c.toNat : Int))).getD (V.str (tx [63]))) = V.str (tx [kn c]) := all_u8 (p := fun c => ((valV (mergeK [] knKV) (Sum.inl (c.toNat : Int))).getD (V.str (tx [63]))) = V.str (tx [kn c])) (by decide +kernel)
theorem join_ones : ∀ b : Bytes, Txt.join (Str.ofString "") (b.map fun c => tx [c]) = tx b := fun b => by
  rw [join_eq]
  refine ext_tl ?_
  rw [tl_join]
  have ee : tl (Str.ofString "") = [] := by decide +kernel
  rw [ee, List.map_map]
  have go : ∀ b : Bytes, joinL [] (b.map (tl ∘ fun c => tx [c])) = b.map UInt8.toNat := by
    intro b
    induction b with
    | nil => rfl
    | cons c r ih =>
      cases r with
      | nil => rfl
      | cons d r =>
        show [c.toNat] ++ ([] ++ joinL [] ((d :: r).map (tl ∘ fun c => tx [c]))) = _
        rw [ih]
        rfl
  exact go b
/-- a list of bytes, handed in -/
def BytesL (K : PySem.W.Frag) (H : Hp) (a : Addr) (b : Bytes) : Prop := SqL K H a (b.map fun c => V.int (c.toNat : Int))
def spTextOf (K : PySem.W.Frag) : Sp := fun vs H Q _ => ∃ (a : Addr) (b : Bytes), vs = [.ref a] ∧ BytesL K H a b ∧ b.length ≤ 5000 ∧ ∀ H', Same H H' → Q (.str (tx (b.map kn))) H'
structure TextG (K : PySem.W.Frag) (mg : Str → Option Value) : Prop where
  ord : mg "ord" = none
  dict : mg "dict" = none
  KNOWN : Gs mg "KNOWN" KNOWNB
  STR : Gs mg "STRANGER" [63]
theorem paired_snoc {α β : Type} {R : α → β → Prop} : ∀ {l : List α} {m : List β} {a : α} {b : β}, Paired R l m → R a b → Paired R (l ++ [a]) (m ++ [b])
  | _, _, _, _, .nil, h => .cons h .nil
  | _, _, _, _, .cons x t, h => .cons x (paired_snoc t h)
theorem paired_map {α β : Type} {R S : α → β → Prop} (f : ∀ a b, R a b → S a b) : ∀ {l : List α} {m : List β}, Paired R l m → Paired S l m
  | _, _, .nil => .nil
  | _, _, .cons x t => .cons (f _ _ x) (paired_map f t)
section
variable {P : Program} {w : World} {K : PySem.W.Frag} {mg : Str → Option Value} {base : Heap}
theorem scTextOf : FnScope ["t", "known", "sign", "byte"] ["t"] (defScope sTextOf) := ⟨rfl, rfl, rfl, by decide +kernel, rfl, by decide +kernel, by decide +kernel⟩
theorem ok_textOf {f : Addr} {fd : FuncData} (F : L2.Fun K "text_of" "text_of" sTextOf f fd) (T : TextG K mg) : FnOk P w K mg base CX0 1 f fd ["t"] (spTextOf K) := by
  refine F.ok scTextOf (fun vs H Q E h => ?_) (fun cdv A outer s H vs Q E hr h => ?_)
  · obtain ⟨a, b, rfl, _⟩ := h
    rfl
  obtain ⟨a, b, rfl, hS, h5, q⟩ := h
  refine ⟨_, pss_cons (ps_set (i := 1) scTextOf.nd rfl (Or.inr rfl) (pe_callTy (call_dictP rfl) rfl T.dict (by decide +kernel) (pa_cons
      (pe_lc (own := [("sign", 2)]) (g := gName 2) (tt := tYes) rfl scTextOf.nd (pi_str (pe_gs rfl T.KNOWN)) (blkOk_by (N := ["t", "known", "sign", "byte"]) (sc := defScope sTextOf) (by decide +kernel))
        (fun _ _ _ _ _ => pg_name (i := 2) scTextOf.nd rfl (Or.inl rfl)) (fun _ _ _ _ _ => pts_nil)
        (fun _ _ _ _ _ => pe_tup (pa_cons (pe_callB call_ord rfl T.ord PyProof.Rows.boot_ord (pa_cons (pv 2) pa_nil)) (pa_cons (pv 2) pa_nil)))) pa_nil)))
    (pss_one (ps_ret (pe_bm PySem.F.plainAttrs_str PySem.F.slot_str_join PySem.F.type_str_join mt_join pe_str (pa_cons
      (pe_lc (own := [("byte", 3)]) (g := gName 3) (tt := tYes) rfl scTextOf.nd (pi_list (pv 0)) (blkOk_by (N := ["t", "known", "sign", "byte"]) (sc := defScope sTextOf) (by decide +kernel))
        (fun _ _ _ _ _ => pg_name (i := 3) scTextOf.nd rfl (Or.inl rfl)) (fun _ _ _ _ _ => pts_nil)
        (fun _ _ _ _ _ => pe_dget2 (hu_of hr) (pv 1) (pv 3) (pe_gs rfl T.STR) ⟨rfl, rfl, rfl, rfl⟩)) pa_nil)))), ?_⟩
  refine ⟨_, rfl, fun D hD => ?_⟩
  have hlen : (tx KNOWNB).cps.size = KNOWNB.length := by show ((KNOWNB.map UInt8.toNat).toArray).size = _; simp
  refine lc_it walk_str (fun i H' => ∃ ps : List Addr, Same H H' ∧ H' D = some (.lst (ps.map V.ref)) ∧ Paired (fun p (kv : Key × V) => H' p = some (.tup [kV kv.1, kv.2])) ps (knKV.take i)) ⟨[], same_new hD _, upd_same, .nil⟩ (fun _ _ _ _ => True.intro) (fun i x H1 H2 hi ⟨ps, s1, s2, s3⟩ hy => ?_) (fun H1 ⟨ps, s1, s2, s3⟩ => ?_)
  · obtain ⟨rfl, c, hc, rfl⟩ := hy
    rw [hlen] at hi
    have ec : KNOWNB[i]? = some KNOWNB[i] := List.getElem?_eq_getElem hi
    have ec2 : c = KNOWNB[i].toNat := by
      have z := tx_get ec
      rw [hc] at z
      exact Option.some.inj z
    subst ec2
    have lps : ps.length ≤ knKV.length := by
      rw [Paired.length s3, List.length_take]
      omega
    have lkn : knKV.length ≤ 200 := by decide +kernel
    refine ⟨rfl, _, rfl, _, rfl, rfl, _, rfl, by show 2 ≤ sizeLine; decide, fun p hp => ⟨ps.map V.ref, ?_, by rw [List.length_map, sizeLine_eq]; omega, ps ++ [p], ?_, ?_, ?_⟩⟩
    · rw [upd_ne (ne_of_none s2 hp)]
      exact s2
    · intro b' o hb
      have hbD : b' ≠ D := ne_of_none hb hD
      rw [upd_ne hbD, upd_ne (ne_of_none (s1 b' o hb) hp)]
      exact s1 b' o hb
    · rw [upd_same, List.map_append]
      rfl
    · have ek : knKV[i]? = some (Sum.inl (KNOWNB[i].toNat : Int), V.str (tx [KNOWNB[i]])) := by
        unfold knKV
        rw [List.getElem?_map, ec]
        rfl
      rw [List.take_add_one, ek]
      have npD : p ≠ D := fun z => by
        rw [z, s2] at hp
        cases hp
      refine paired_snoc (paired_map (fun a kv h => ?_) s3) ?_
      · have h1 : a ≠ D := ne_of s2 h (fun z => by cases z) |>.symm
        rw [upd_ne h1, upd_ne (ne_of_none h hp)]
        exact h
      · rw [upd_ne npD, upd_same]
        rfl
  · rw [hlen] at s3
    have ek : knKV.take KNOWNB.length = knKV := List.take_of_length_le (by unfold knKV; rw [List.length_map]; exact Nat.le_refl _)
    rw [ek] at s3
    refine ⟨D, ps, knKV, rfl, SqL.of s2, paired_map (fun a kv h => SqT.of h) s3, fun d hd => ?_⟩
    have s4 : Same H (upd H1 d (.dK (mergeK [] knKV))) := s1.trans (same_new hd _)
    refine ⟨rfl, _, rfl, a, rfl, ⟨_, s4.seq hS⟩, fun D2 hD2 => ?_⟩
    have nd : d ≠ D2 := fun z => by
      rw [z, upd_same] at hD2
      cases hD2
    generalize hB : upd H1 d (.dK (mergeK [] knKV)) = HB at s4 hD2
    have hd2 : HB d = some (.dK (mergeK [] knKV)) := by rw [← hB]; exact upd_same
    refine lc_it walk_list (fun i H' => Same HB H' ∧ H' D2 = some (.lst (((b.take i).map fun c => tx [kn c]).map V.str))) ⟨same_new hD2 _, upd_same⟩ (fun i H' _ ⟨s5, _⟩ => s5.seq (s4.seq hS)) (fun i x H2 H3 hi ⟨s5, s6⟩ hy => ?_) (fun H2 ⟨s5, s6⟩ => ?_)
    · obtain ⟨rfl, hx⟩ := hy
      rw [List.length_map] at hi
      have eb : b[i]? = some b[i] := List.getElem?_eq_getElem hi
      rw [List.getElem?_map, eb] at hx
      cases hx
      have hd3 : H3 d = some (.dK (mergeK [] knKV)) := s5 _ _ hd2
      refine ⟨rfl, _, rfl, d, rfl, .inl ⟨_, .inl hd3⟩, _, rfl, _, DGet.k (k := Sum.inl (b[i].toNat : Int)) hd3, _, s6, by rw [List.length_map, List.length_map, List.length_take, sizeLine_eq]; omega, ?_, ?_⟩
      · intro b' o hb
        rw [upd_ne (ne_of_none hb hD2)]
        exact s5 b' o hb
      · rw [upd_same, kn_get, List.take_add_one, eb, List.map_append, List.map_append]
        rfl
    · rw [List.length_map, List.take_length] at s6
      refine ⟨_, D2, b.map fun c => tx [kn c], rfl, rfl, .inl (SqL.of s6), ?_, ?_⟩
      · have e1 : ((b.map fun c => tx [kn c]).map (·.length)).sum = b.length := by
          rw [List.map_map]
          have : ∀ l : Bytes, (l.map ((·.length) ∘ fun c => tx [kn c])).sum = l.length := by
            intro l
            induction l with
            | nil => rfl
            | cons c r ih =>
              rw [List.map_cons, List.sum_cons, ih, List.length_cons]
              show (tx [kn c]).length + r.length = r.length + 1
              rw [tx_len]
              show 1 + r.length = _
              omega
          exact this b
        have e2 : (Str.ofString "").length = 0 := by decide +kernel
        rw [e1, List.length_map, e2]
        omega
      · have e3 : (b.map fun c => tx [kn c]) = (b.map kn).map fun c => tx [c] := by rw [List.map_map]; rfl
        rw [e3, join_ones]
        exact q H2 (s4.trans s5)
end
theorem kn128 : ∀ c : UInt8, (kn c).toNat < 128 := all_u8 (p := fun c => (kn c).toNat < 128) (by decide +kernel)
def HO.isTup : HO → Bool
  | .tup _ => true
  | _ => false
/-- all but M is kept, and every tuple -/
def Kp (M : List Addr) (H H' : Hp) : Prop := ∀ b o, H b = some o → (b ∉ M ∨ HO.isTup o = true) → H' b = some o
theorem Kp.refl (M : List Addr) (H : Hp) : Kp M H H := fun _ _ h _ => h
theorem Kp.trans {M : List Addr} {H1 H2 H3 : Hp} (h1 : Kp M H1 H2) (h2 : Kp M H2 H3) : Kp M H1 H3 := fun b o h k => h2 b o (h1 b o h k) k
theorem Kp.mono {M N : List Addr} {H1 H2 : Hp} (h : Kp M H1 H2) (s : ∀ x ∈ M, x ∈ N) : Kp N H1 H2 := fun b o q k => h b o q (k.imp (fun z y => z (s b y)) id)
theorem Kp.same {M : List Addr} {H1 H2 : Hp} (h : Same H1 H2) : Kp M H1 H2 := fun b o q _ => h b o q
theorem Kp.put {M : List Addr} {H : Hp} {p : Addr} {o o' : HO} (hp : H p = some o) (ht : HO.isTup o = false) (hm : p ∈ M) : Kp M H (upd H p o') := fun b u h k => by
  by_cases e : b = p
  · subst e
    rw [hp] at h
    injection h with h
    subst h
    rcases k with k | k
    · exact absurd hm k
    · rw [ht] at k
      cases k
  · rw [upd_ne e]
    exact h
theorem Kp.new {M : List Addr} {H : Hp} {p : Addr} {o : HO} (hp : H p = none) : Kp M H (upd H p o) := Kp.same (same_new hp o)
theorem Kp.free {M : List Addr} {H H' : Hp} {p : Addr} (h : Kp M H H') (hm : p ∉ M) (hp : H' p = none) : H p = none := by
  cases e : H p with
  | none => rfl
  | some o => rw [h p o e (.inl hm)] at hp; cases hp
/-- what is new on the way may be left out -/
theorem Kp.drop {M : List Addr} {H H1 H2 : Hp} {p : Addr} (h1 : Kp M H H1) (h2 : Kp (p :: M) H1 H2) (hp : H p = none) : Kp M H H2 := fun b o q k => by
  refine h2 b o (h1 b o q k) ?_
  rcases k with k | k
  · refine .inl fun z => ?_
    rcases List.mem_cons.mp z with e | m
    · rw [e, hp] at q
      cases q
    · exact k m
  · exact .inr k
theorem paired_at {α β : Type} {R : α → β → Prop} : ∀ {l : List α} {m : List β} (h : Paired R l m) (i : Nat) (y : β), m[i]? = some y → ∃ x, l[i]? = some x ∧ R x y
  | _, _, .nil, i, y, e => by simp at e
  | _, _, .cons r p, 0, y, e => by
    simp only [List.getElem?_cons_zero, Option.some.injEq] at e
    subst e
    exact ⟨_, rfl, r⟩
  | _, _, .cons r p, i + 1, y, e => by
    rw [List.getElem?_cons_succ] at e ⊢
    exact paired_at p i y e
structure Fn1 (K : PySem.W.Frag) (mg : Str → Option Value) (x : Str) (st : Stmt) (ps : List Str) (f : Addr) (fd : FuncData) : Prop where
  F : L2.Fun K x x st f fd
  b : L2.Binds K fd ps []
  m : mg x = some (.ref f)
structure Mt1 (K : PySem.W.Frag) (C : Addr) (x q : Str) (st : Stmt) (ps : List Str) (f : Addr) (fd : FuncData) : Prop where
  F : L2.Fun K x q st f fd
  b : L2.Binds K fd ps []
  m : L2.Meth K C x f
theorem dec_tx (a b : Bytes) : (tx a == tx b) = decide (a = b) := by
  by_cases e : a = b
  · subst e
    simp
  · rw [decide_eq_false e]
    exact beq_eq_false_iff_ne.mpr fun z => e (tx_inj z)
theorem dec_str (a b : Bytes) : decide (V.str (tx a) = V.str (tx b)) = decide (a = b) := by
  by_cases e : a = b
  · subst e
    simp
  · rw [decide_eq_false e]
    exact decide_eq_false fun z => e (tx_inj (by injection z))
theorem pa1 {v : V} {σ : L2.St} {H : Hp} {R : List V → Hp → Prop} (h : R [v] H) : tCons (tC v) tNil σ H R := h
end SDP
set_option Elab.async false
set_option linter.all false
set_option maxRecDepth 100000
set_option maxHeartbeats 4000000
namespace SDP
open PySem PySem.Spec PyProof.Rows L2 SDX
/-! ### Refusal.__init__ -/
section
variable {P : Program} {w : World} {K : PySem.W.Frag} {mg : Str → Option Value} {base : Heap}
/-! ### NoDraft.__init__, TooLong.__init__ -/
def spNoI (K : PySem.W.Frag) : Sp := fun vs H Q _ => ∃ (a C : Addr) (k p : Int), vs = [.ref a, .int k, .int p] ∧ ExC K C ∧ PySem.W.findIn K (.ref C) "number" = some none ∧ PySem.W.findIn K (.ref C) "signed" = some none ∧ H a = some (exo a C none) ∧
  ∀ (d l : Addr) (H' : Hp), (∀ b o, b ≠ a → H b = some o → H' b = some o) → H d = none → l ≠ a → d ≠ a → H' a = some (exo a C (some d)) → H' d = some (exd d [("signed", .ref l), ("number", .int (-2))]) → H' l = some (.lst [.int k, .int p]) → Q .non H'
theorem scNoI : FnScope ["self", "kind", "place"] ["self", "kind", "place"] (defScope sNoI) := ⟨rfl, rfl, rfl, by decide +kernel, rfl, by decide +kernel, by decide +kernel⟩
theorem ok_noI {f f1 C1 : Addr} {fd fd1 : FuncData} {mc : Value} (F : L2.Fun K "__init__" "NoDraft.__init__" sNoI f fd) (F1 : L2.Fun K "__init__" "Refusal.__init__" sRefI f1 fd1) (b1 : L2.Binds K fd1 ["self", "number", "signed"] [])
    (g1 : mg "Refusal" = some (.ref C1)) (cr : ClX.CRead K C1 mc) (cv : PySem.W.findCls K (.ref C1) mc "__init__" = some (.val (.ref f1)))
    (mE : mg "Exception" = none) (vE : PySem.W.findCls K (.type "Exception") (.type "type") "__init__" = some (.val (.builtin "Exception.__init__"))) :
    FnOk P w K mg base CX0 2 f fd ["self", "kind", "place"] (spNoI K) := by
  refine F.ok scNoI (fun vs H Q E h => ?_) (fun cdv A outer s H vs Q E hr h => ?_)
  · obtain ⟨a, C, k, p, rfl, _⟩ := h
    rfl
  obtain ⟨a, C, k, p, rfl, T, hn, hs, ha, q⟩ := h
  refine ⟨_, pss_one (ps_expr (pe_cfun (ok_refI F1 mE vE) hr rfl g1 cr cv F1.kp b1 .nil pass0 (pa_cons (pv 0) (pa_cons (pe_un un_neg pe_int) (pa_cons (pe_lst (pa_cons (pv 1) (pa_cons (pv 2) pa_nil))) pa_nil))))), ?_⟩
  refine ⟨_, rfl, _, rfl, _, rfl, _, rfl, (by show 2 ≤ sizeLine; decide), fun l hl => ?_⟩
  have hla : l ≠ a := fun z => by rw [z, ha] at hl; cases hl
  refine ⟨a, C, l, -2, rfl, T, hn, hs, ?_, fun d hd hda => ?_⟩
  · rw [upd_ne (Ne.symm hla)]
    exact ha
  have hdl : d ≠ l := fun z => by rw [z, upd_same] at hd; cases hd
  have hd0 : H d = none := by rw [upd_ne hdl] at hd; exact hd
  refine q d l _ (fun b o hb hbo => ?_) hd0 hla hda ?_ upd_same ?_
  · rw [upd_ne (ne_of_none hbo hd0), upd_ne hb, upd_ne (ne_of_none hbo hd0), upd_ne (ne_of_none hbo hl)]
    exact hbo
  · rw [upd_ne (Ne.symm hda), upd_same]
  · rw [upd_ne (Ne.symm hdl), upd_ne hla, upd_ne (Ne.symm hdl), upd_same]
theorem mk_no {σ : L2.St} {H : Hp} {C f : Addr} {E : XK} {ta : TA} {k p : Int} (T : ErrC K mg "NoDraft" C f) (rs : Rs C E (-2) [k, p]) {H1 : Hp}
    (h : ∀ R : List V → Hp → Prop, R [.int k, .int p] H1 → ta σ H R) : tMkN C (spNoI K) ta σ H E := by
  refine h _ ⟨by show 2 ≤ 1000; decide, fun a ha => ⟨a, C, k, p, rfl, T.ex, T.noN, T.noS, upd_same, fun d l H' keep hd hla hda ea ed el => ⟨rfl, d, _, ea, ed, ?_, ?_⟩⟩⟩
  · rw [upd_ne hda] at hd
    exact hd
  · have hdl : d ≠ l := fun z => by
      rw [z, el] at ed
      cases ed
    exact rs_made (H1 := H1) rs hla hdl el
end
end SDP
set_option Elab.async false
set_option linter.all false
set_option maxRecDepth 100000
set_option maxHeartbeats 4000000
namespace SDP
open PySem PySem.Spec PyProof.Rows L2 SDX SD
open SeamNum (Bytes)
open SeamText (goesOn isLetter)
open SeamPattern (isDigit)
/-! ### bytes as a text -/
/-! ### places in a text -/
/-- where a suffix begins -/
def plc (tb l : Bytes) : Nat := tb.length - l.length
theorem plc_drop {tb l : Bytes} (h : l <:+ tb) : tb.drop (plc tb l) = l := drop_suf h
theorem plc_le (tb l : Bytes) : plc tb l ≤ tb.length := Nat.sub_le _ _
theorem suf_drop {tb l : Bytes} {i : Nat} (h : l <:+ tb.drop i) : l <:+ tb := h.trans (List.drop_suffix i tb)
theorem skip_suf : ∀ (b : Bool) (l : Bytes), skipB b l <:+ l
  | _, [] => by cases ‹Bool› <;> exact List.suffix_refl _
  | false, c :: r => by
    have h1 := skip_suf false r
    have h2 := skip_suf true r
    simp only [skipB]
    split
    · exact h1.trans (List.suffix_cons c r)
    · split
      · exact h2.trans (List.suffix_cons c r)
      · exact List.suffix_refl _
  | true, c :: r => by
    have h1 := skip_suf false r
    have h2 := skip_suf true r
    simp only [skipB]
    split
    · exact h1.trans (List.suffix_cons c r)
    · exact h2.trans (List.suffix_cons c r)
/-- a call that changes nothing: its text and its place -/
def spAt (g : Bytes → Bytes) : Sp := fun vs H Q _ => ∃ (tb : Bytes) (i : Nat), vs = [.str (tx tb), .int i] ∧ tb.length ≤ 5000 ∧ (∀ c ∈ tb, c.toNat < 128) ∧ i ≤ tb.length ∧ Q (.int (plc tb (g (tb.drop i)) : Nat)) H
section
variable {P : Program} {w : World} {K : PySem.W.Frag} {mg : Str → Option Value} {base : Heap}
theorem scPastRe : FnScope ["text", "at", "end"] ["text", "at"] (defScope sPastRe) := ⟨rfl, rfl, rfl, by decide +kernel, rfl, by decide +kernel, by decide +kernel⟩
/-- what's left from the line's end on -/
def atEnd (l : Bytes) : Bytes := l.dropWhile fun (d : UInt8) => d != 10
theorem dw_first {tb : Bytes} {k : Nat} (hk : tb[k]? = some 10) : ∀ (n i : Nat), k - i = n → i ≤ k → (∀ v, i ≤ v → v < k → tb[v]? ≠ some 10) → atEnd (tb.drop i) = tb.drop k
  | 0, i, hn, hi, _ => by
    have e : i = k := by omega
    subst e
    rw [drop_cons hk]
    rfl
  | n + 1, i, hn, hi, h => by
    have hlt : i < tb.length := Nat.lt_of_le_of_lt hi (List.getElem?_eq_some_iff.mp hk).1
    have e : tb.drop i = tb[i] :: tb.drop (i + 1) := List.drop_eq_getElem_cons hlt
    have ne : tb[i] ≠ 10 := fun z => h i (Nat.le_refl _) (by omega) (by rw [List.getElem?_eq_getElem hlt, z])
    rw [e]
    show (tb[i] :: tb.drop (i + 1)).dropWhile _ = _
    rw [List.dropWhile_cons, if_pos (by simpa using ne)]
    exact dw_first hk n (i + 1) (by omega) (by omega) fun v h1 h2 => h v (by omega) h2
theorem dw_never {tb : Bytes} : ∀ (n i : Nat), tb.length - i = n → (∀ v, i ≤ v → tb[v]? ≠ some 10) → atEnd (tb.drop i) = []
  | 0, i, hn, _ => by
    rw [List.drop_eq_nil_of_le (by omega)]
    rfl
  | n + 1, i, hn, h => by
    have hlt : i < tb.length := by omega
    have e : tb.drop i = tb[i] :: tb.drop (i + 1) := List.drop_eq_getElem_cons hlt
    have ne : tb[i] ≠ 10 := fun z => h i (Nat.le_refl _) (by rw [List.getElem?_eq_getElem hlt, z])
    rw [e]
    show (tb[i] :: tb.drop (i + 1)).dropWhile _ = _
    rw [List.dropWhile_cons, if_pos (by simpa using ne)]
    exact dw_never n (i + 1) (by omega) fun v h1 => h v (by omega)
theorem tx_getD {tb : Bytes} {v : Nat} : tb[v]? = some 10 ↔ (v < tb.length ∧ (tx tb).cps.getD v 0 = 10) := by
  by_cases h : v < tb.length
  · have e : (tx tb).cps.getD v 0 = tb[v].toNat := by
      have q := tx_get (List.getElem?_eq_getElem h)
      have e2 : (tx tb).cps.getD v 0 = ((tx tb).cps[v]?).getD 0 := by rw [Array.getD_eq_getD_getElem?]
      rw [e2, q]
      rfl
    rw [List.getElem?_eq_getElem h, e]
    constructor
    · intro z
      rw [Option.some.inj z]
      exact ⟨h, rfl⟩
    · intro z
      have q : tb[v] = 10 := UInt8.toNat_inj.mp z.2
      rw [q]
  · rw [List.getElem?_eq_none (by omega)]
    constructor
    · intro z
      cases z
    · intro z
      exact absurd z.1 h
theorem find_end {tb : Bytes} {i : Nat} (hi : i ≤ tb.length) : Txt.find3 (tx tb) (Str.ofString "\n") i = if atEnd (tb.drop i) = [] then -1 else ((plc tb (atEnd (tb.drop i)) : Nat) : Int) := by
  have ec : (Str.ofString "\n") = (⟨#[10]⟩ : Str) := by decide +kernel
  rw [ec]
  have hl : (tx tb).length = tb.length := tx_len tb
  have ef : PySem.fromIndex (tx tb).length (i : Int) = i := by
    unfold PySem.fromIndex
    rw [if_neg (by omega)]
    omega
  rcases PySem.StrLaws.find3_spec (tx tb) 10 (i : Int) with ⟨h0, hn⟩ | ⟨k, h0, hlo, hk, hc, hn⟩
  · rw [h0]
    have e : atEnd (tb.drop i) = [] := dw_never _ i rfl fun v hv z => by
      have q := tx_getD.mp z
      exact hn v (by rw [ef]; exact hv) (by rw [hl]; exact q.1) q.2
    rw [if_pos e]
  · rw [ef] at hlo hn
    rw [hl] at hk
    have e : atEnd (tb.drop i) = tb.drop k := dw_first (tx_getD.mpr ⟨hk, hc⟩) _ i rfl hlo fun v h1 h2 z => hn v h1 h2 (tx_getD.mp z).2
    rw [h0, e, if_neg (fun z => by have q := List.drop_eq_nil_iff.mp z; omega)]
    unfold plc
    rw [List.length_drop]
    omega
theorem atEnd_suf (l : Bytes) : atEnd l <:+ l := List.dropWhile_suffix _
theorem ok_pastRe {f : Addr} {fd : FuncData} (F : L2.Fun K "past_remark" "past_remark" sPastRe f fd) (ml : mg "len" = none) : FnOk P w K mg base CX0 1 f fd ["text", "at"] (spAt atEnd) := by
  refine F.ok scPastRe (fun vs H Q E h => ?_) (fun cdv A outer s H vs Q E hr h => ?_)
  · obtain ⟨tb, i, rfl, _⟩ := h
    rfl
  obtain ⟨tb, i, rfl, h5, h128, hi, q⟩ := h
  refine ⟨_, pss_cons (ps_set (i := 2) scPastRe.nd rfl (Or.inl rfl) (pe_bm PySem.F.plainAttrs_str PySem.F.slot_str_find PySem.F.type_str_find mt_find3 (pv 0) (pa_cons pe_str (pa_cons (pv 1) pa_nil))))
    (pss_cons (ps_if (pt_cmpR op_lt (pv 2) pe_int (nomark _)) (pss_one (ps_ret (pe_callB call_len_str rfl ml PySem.boot_len (pa_cons (pv 0) pa_nil)))) pss_nil)
    (pss_one (ps_ret (pv 2)))), ?_⟩
  refine ⟨_, rfl, rfl, _, rfl, _, _, _, rfl, rfl, ?_⟩
  rw [find_end hi]
  by_cases e : atEnd (tb.drop i) = []
  · rw [if_pos e]
    refine ⟨_, rfl, _, _, rfl, rfl, _, rfl, ?_⟩
    refine iteT ⟨_, rfl, _, rfl, txt_line h5, ?_⟩
    rw [tx_len]
    rw [e] at q
    exact q
  · rw [if_neg e]
    refine ⟨_, rfl, _, _, rfl, rfl, _, rfl, ?_⟩
    have c : ¬ ((plc tb (atEnd (tb.drop i)) : Nat) : Int) < 0 := by omega
    rw [decide_eq_false c]
    exact iteF ⟨_, rfl, q⟩
/-! ### past_letters, past_digits -/
theorem scPastLe : FnScope ["text", "at"] ["text", "at"] (defScope sPastLe) := ⟨rfl, rfl, rfl, by decide +kernel, rfl, by decide +kernel, by decide +kernel⟩
theorem scPastDi : FnScope ["text", "at"] ["text", "at"] (defScope sPastDi) := ⟨rfl, rfl, rfl, by decide +kernel, rfl, by decide +kernel, by decide +kernel⟩
theorem dw_suf (p : UInt8 → Bool) (l : Bytes) : l.dropWhile p <:+ l := List.dropWhile_suffix _
theorem dw_step {p : UInt8 → Bool} {tb : Bytes} {i : Nat} {c : UInt8} (h : tb[i]? = some c) (hc : p c = true) : (tb.drop i).dropWhile p = (tb.drop (i + 1)).dropWhile p := by
  rw [drop_cons h, List.dropWhile_cons, if_pos hc]
theorem dw_stop {p : UInt8 → Bool} {tb : Bytes} {i : Nat} {c : UInt8} (h : tb[i]? = some c) (hc : p c = false) : (tb.drop i).dropWhile p = tb.drop i := by
  rw [drop_cons h, List.dropWhile_cons, if_neg (by rw [hc]; exact Bool.false_ne_true)]
theorem plc_drop_self {tb : Bytes} {i : Nat} (hi : i ≤ tb.length) : plc tb (tb.drop i) = i := by
  unfold plc
  rw [List.length_drop]
  omega
theorem ok_pastLe {f : Addr} {fd : FuncData} (F : L2.Fun K "past_letters" "past_letters" sPastLe f fd) (ml : mg "len" = none) : FnOk P w K mg base CX0 1 f fd ["text", "at"] (spAt fun l => l.dropWhile goesOn) := by
  refine F.ok scPastLe (fun vs H Q E h => ?_) (fun cdv A outer s H vs Q E hr h => ?_)
  · obtain ⟨tb, i, rfl, _⟩ := h
    rfl
  obtain ⟨tb, i, rfl, h5, h128, hi, q⟩ := h
  have q : Q (.int ((plc tb ((tb.drop i).dropWhile goesOn) : Nat) : Int)) H := q
  refine ⟨_, pss_cons (ps_while PassesOwn.never (PW.pt (pw_and (pt_cmpR op_lt (pv 1) (pe_callB call_len_str rfl ml PySem.boot_len (pa_cons (pv 0) pa_nil)) (nomark _))
      (pw_and1 (pt_val (pe_bm0 PySem.F.plainAttrs_str PySem.F.slot_str_isalnum PySem.F.type_str_isalnum mt_isalnum (pe_item_str (pv 0) (pv 1) (fun _ _ => rfl)))))))
      (pss_one (ps_aug (i := 1) scPastLe.nd rfl (Or.inl rfl) pe_int ip_add)))
    (pss_one (ps_ret (pv 1))), ?_⟩
  refine ⟨fun m σ H' => ∃ j : Nat, σ = [some (.str (tx tb)), some (.int j)] ∧ H' = H ∧ j ≤ tb.length ∧ m = tb.length - j ∧ (tb.drop j).dropWhile goesOn = (tb.drop i).dropWhile goesOn, ⟨_, i, rfl, rfl, hi, rfl, rfl⟩, ?_⟩
  rintro m σ H' ⟨j, rfl, rfl, hj, rfl, e⟩
  refine ⟨_, rfl, _, rfl, _, rfl, txt_line h5, _, _, rfl, rfl, _, rfl, ?_⟩
  rw [tx_len]
  refine ite2 (fun c => ?_) (fun c => ?_)
  · have c' : j < tb.length := by have := of_decide_eq_true c; omega
    obtain ⟨x, hx, mx⟩ := get_of c'
    refine ⟨_, rfl, _, rfl, tx tb, _, x.toNat, rfl, rfl, by omega, by omega, by rw [tx_len]; omega, tx_get hx, rfl, _, rfl, rfl, trivial, _, rfl, ?_⟩
    rw [is_alnum x (h128 x mx)]
    cases hg : goesOn x with
    | true =>
      refine iteT ⟨_, fun _ _ h => h, _, rfl, _, _, rfl, rfl, _, ?_, j + 1, rfl, rfl, c', rfl, ?_⟩
      · omega
      · rw [← dw_step hx hg, e]
    | false =>
      refine iteF ⟨_, rfl, ?_⟩
      rw [← e, dw_stop hx hg, plc_drop_self hj] at q
      exact q
  · have c' : ¬ (j : Int) < (tb.length : Int) := of_decide_eq_false (Bool.eq_false_iff.mpr c)
    refine iteF ⟨_, rfl, ?_⟩
    have e2 : tb.drop j = [] := List.drop_eq_nil_of_le (by omega)
    rw [← e, e2] at q
    have e3 : (plc tb (([] : Bytes).dropWhile goesOn) : Nat) = j := by
      show tb.length - 0 = j
      omega
    rw [e3] at q
    exact q
theorem ok_pastDi {f : Addr} {fd : FuncData} (F : L2.Fun K "past_digits" "past_digits" sPastDi f fd) (ml : mg "len" = none) : FnOk P w K mg base CX0 1 f fd ["text", "at"] (spAt fun l => l.dropWhile isDigit) := by
  refine F.ok scPastDi (fun vs H Q E h => ?_) (fun cdv A outer s H vs Q E hr h => ?_)
  · obtain ⟨tb, i, rfl, _⟩ := h
    rfl
  obtain ⟨tb, i, rfl, h5, h128, hi, q⟩ := h
  have q : Q (.int ((plc tb ((tb.drop i).dropWhile isDigit) : Nat) : Int)) H := q
  refine ⟨_, pss_cons (ps_while PassesOwn.never (PW.pt (pw_and (pt_cmpR op_lt (pv 1) (pe_callB call_len_str rfl ml PySem.boot_len (pa_cons (pv 0) pa_nil)) (nomark _))
      (pw_and1 (pt_val (pe_bm0 PySem.F.plainAttrs_str PySem.F.slot_str_isdigit PySem.F.type_str_isdigit mt_isdigit (pe_item_str (pv 0) (pv 1) (fun _ _ => rfl)))))))
      (pss_one (ps_aug (i := 1) scPastDi.nd rfl (Or.inl rfl) pe_int ip_add)))
    (pss_one (ps_ret (pv 1))), ?_⟩
  refine ⟨fun m σ H' => ∃ j : Nat, σ = [some (.str (tx tb)), some (.int j)] ∧ H' = H ∧ j ≤ tb.length ∧ m = tb.length - j ∧ (tb.drop j).dropWhile isDigit = (tb.drop i).dropWhile isDigit, ⟨_, i, rfl, rfl, hi, rfl, rfl⟩, ?_⟩
  rintro m σ H' ⟨j, rfl, rfl, hj, rfl, e⟩
  refine ⟨_, rfl, _, rfl, _, rfl, txt_line h5, _, _, rfl, rfl, _, rfl, ?_⟩
  rw [tx_len]
  refine ite2 (fun c => ?_) (fun c => ?_)
  · have c' : j < tb.length := by have := of_decide_eq_true c; omega
    obtain ⟨x, hx, mx⟩ := get_of c'
    refine ⟨_, rfl, _, rfl, tx tb, _, x.toNat, rfl, rfl, by omega, by omega, by rw [tx_len]; omega, tx_get hx, rfl, _, rfl, rfl, trivial, _, rfl, ?_⟩
    rw [is_digit x (h128 x mx)]
    cases hg : isDigit x with
    | true =>
      refine iteT ⟨_, fun _ _ h => h, _, rfl, _, _, rfl, rfl, _, ?_, j + 1, rfl, rfl, c', rfl, ?_⟩
      · omega
      · rw [← dw_step hx hg, e]
    | false =>
      refine iteF ⟨_, rfl, ?_⟩
      rw [← e, dw_stop hx hg, plc_drop_self hj] at q
      exact q
  · have c' : ¬ (j : Int) < (tb.length : Int) := of_decide_eq_false (Bool.eq_false_iff.mpr c)
    refine iteF ⟨_, rfl, ?_⟩
    have e2 : tb.drop j = [] := List.drop_eq_nil_of_le (by omega)
    rw [← e, e2] at q
    have e3 : (plc tb (([] : Bytes).dropWhile isDigit) : Nat) = j := by
      show tb.length - 0 = j
      omega
    rw [e3] at q
    exact q
/-! ### past_blanks -/
theorem scPastBl : FnScope ["text", "at"] ["text", "at"] (defScope sPastBl) := ⟨rfl, rfl, rfl, by decide +kernel, rfl, by decide +kernel, by decide +kernel⟩
theorem is_blank : ∀ c : UInt8, decide (c.toNat ∈ (Str.ofString " \n#").cps.toList) = (c == 32 || (c == 10 || c == 35)) := all_u8 (p := fun c => decide (c.toNat ∈ (Str.ofString " \n#").cps.toList) = (c == 32 || (c == 10 || c == 35))) (by decide +kernel)
theorem is_hash : ∀ c : UInt8, decide (V.str ⟨#[c.toNat]⟩ = V.str (Str.ofString "#")) = (c == 35) := all_u8 (p := fun c => decide (V.str ⟨#[c.toNat]⟩ = V.str (Str.ofString "#")) = (c == 35)) (by decide +kernel)
theorem skip_hash {r : Bytes} : skipB false (35 :: r) = skipB false (atEnd (35 :: r)) := by
  have e : atEnd (35 :: r) = atEnd r := by
    show (35 :: r).dropWhile _ = _
    rw [List.dropWhile_cons, if_pos (by decide)]
    rfl
  rw [e]
  exact skipB_rem r
theorem ok_pastBl {f fR : Addr} {fd fdR : FuncData} (F : L2.Fun K "past_blanks" "past_blanks" sPastBl f fd) (ml : mg "len" = none) (FR : L2.Fun K "past_remark" "past_remark" sPastRe fR fdR) (bR : L2.Binds K fdR ["text", "at"] []) (mR : mg "past_remark" = some (.ref fR)) :
    FnOk P w K mg base CX0 2 f fd ["text", "at"] (spAt (skipB false)) := by
  refine F.ok scPastBl (fun vs H Q E h => ?_) (fun cdv A outer s H vs Q E hr h => ?_)
  · obtain ⟨tb, i, rfl, _⟩ := h
    rfl
  obtain ⟨tb, i, rfl, h5, h128, hi, q⟩ := h
  refine ⟨_, pss_cons (ps_while PassesOwn.never (PW.pt (pw_and (pt_cmpR op_lt (pv 1) (pe_callB call_len_str rfl ml PySem.boot_len (pa_cons (pv 0) pa_nil)) (nomark _))
      (pw_and1 (pt_cmpR op_in_sign (pe_item_str (pv 0) (pv 1) (fun _ _ => rfl)) pe_str (by rfl)))))
      (pss_one (ps_if (pt_cmpR op_eq (pe_item_str (pv 0) (pv 1) (fun _ _ => rfl)) pe_str (nomark _))
        (pss_one (ps_set (i := 1) scPastBl.nd rfl (Or.inl rfl) (pe_call (ok_pastRe FR ml) hr rfl mR FR.kp bR .nil pass0 (pa_cons (pv 0) (pa_cons (pv 1) pa_nil)))))
        (pss_one (ps_aug (i := 1) scPastBl.nd rfl (Or.inl rfl) pe_int ip_add)))))
    (pss_one (ps_ret (pv 1))), ?_⟩
  refine ⟨fun m σ H' => ∃ j : Nat, σ = [some (.str (tx tb)), some (.int j)] ∧ H' = H ∧ j ≤ tb.length ∧ m = tb.length - j ∧ skipB false (tb.drop j) = skipB false (tb.drop i), ⟨_, i, rfl, rfl, hi, rfl, rfl⟩, ?_⟩
  rintro m σ H' ⟨j, rfl, rfl, hj, rfl, e⟩
  refine ⟨_, rfl, _, rfl, _, rfl, txt_line h5, _, _, rfl, rfl, _, rfl, ?_⟩
  rw [tx_len]
  refine ite2 (fun c => ?_) (fun c => ?_)
  · have c' : j < tb.length := by have := of_decide_eq_true c; omega
    obtain ⟨x, hx, mx⟩ := get_of c'
    refine ⟨_, rfl, _, rfl, tx tb, _, x.toNat, rfl, rfl, by omega, by omega, by rw [tx_len]; omega, tx_get hx, _, _, rfl, rfl, _, rfl, ?_⟩
    rw [is_blank x]
    cases hg : (x == 32 || (x == 10 || x == 35)) with
    | true =>
      refine iteT ⟨_, fun _ _ h => h, ?_⟩
      refine ⟨_, rfl, _, rfl, tx tb, _, x.toNat, rfl, rfl, by omega, by omega, by rw [tx_len]; omega, tx_get hx, rfl, _, rfl, ?_⟩
      rw [is_hash x]
      cases h35 : x == 35 with
      | true =>
        have ex : x = 35 := by simpa using h35
        have ed : tb.drop j = 35 :: tb.drop (j + 1) := by rw [← ex]; exact drop_cons hx
        have sf : atEnd (tb.drop j) <:+ tb := suf_drop (atEnd_suf _)
        refine iteT ⟨_, rfl, _, rfl, tb, j, rfl, h5, h128, hj, _, ?_, _, rfl, rfl, plc_le _ _, rfl, ?_⟩
        · have h1 : (atEnd (tb.drop j)).length ≤ (tb.drop (j + 1)).length := by
            rw [ed]
            have z : atEnd (35 :: tb.drop (j + 1)) = atEnd (tb.drop (j + 1)) := by
              show (35 :: tb.drop (j + 1)).dropWhile _ = _
              rw [List.dropWhile_cons, if_pos (by decide)]
              rfl
            rw [z]
            exact (atEnd_suf _).length_le
          rw [List.length_drop] at h1
          unfold plc
          omega
        · rw [plc_drop sf, ← e, ed, skip_hash]
      | false =>
        have n35 : x ≠ 35 := by simpa using h35
        refine iteF ⟨_, rfl, _, _, rfl, rfl, _, ?_, j + 1, rfl, rfl, c', rfl, ?_⟩
        · omega
        · rw [← e, drop_cons hx]
          have hb : x = 32 ∨ x = 10 := by
            simp only [Bool.or_eq_true, beq_iff_eq] at hg
            rcases hg with z | z | z
            · exact .inl z
            · exact .inr z
            · exact absurd z n35
          simp only [skipB]
          rw [if_pos hb]
    | false =>
      refine iteF ⟨_, rfl, ?_⟩
      have hn : ¬ (x = 32 ∨ x = 10) ∧ x ≠ 35 := by
        simp only [Bool.or_eq_false_iff, beq_eq_false_iff_ne] at hg
        exact ⟨fun z => z.elim hg.1 hg.2.1, hg.2.2⟩
      have e2 : skipB false (tb.drop j) = tb.drop j := by
        rw [drop_cons hx]
        simp only [skipB]
        rw [if_neg hn.1, if_neg hn.2]
      rw [← e, e2, plc_drop_self hj] at q
      exact q
  · have c' : ¬ (j : Int) < (tb.length : Int) := of_decide_eq_false (Bool.eq_false_iff.mpr c)
    refine iteF ⟨_, rfl, ?_⟩
    have e2 : tb.drop j = [] := List.drop_eq_nil_of_le (by omega)
    rw [← e, e2] at q
    have e3 : (plc tb (skipB false []) : Nat) = j := by
      show tb.length - 0 = j
      omega
    rw [e3] at q
    exact q
end
end SDP
set_option Elab.async false
set_option linter.all false
set_option maxRecDepth 100000
set_option maxHeartbeats 4000000
namespace SDP
open PySem PySem.Spec PyProof.Rows L2 SDX SD
open SeamNum (Bytes)
open SeamText (goesOn isLetter)
open SeamPattern (isDigit)
/-! ### slices -/
theorem cut_one {tb : Bytes} {i : Nat} : cutS (tx tb) (some (i : Int)) (some ((i : Int) + 1)) = tx ((tb.drop i).take 1) := by
  have q := cut_nat (tb := tb) (i := i) (j := i + 1) (by omega)
  have e : ((i + 1 : Nat) : Int) = (i : Int) + 1 := by omega
  rw [e] at q
  rw [q]
  congr 2
  omega
theorem cut_one' {tb : Bytes} {i : Nat} : cutS (tx tb) (some ((i : Int) + 1)) (some ((i : Int) + 2)) = tx ((tb.drop (i + 1)).take 1) := by
  have q := cut_nat (tb := tb) (i := i + 1) (j := i + 2) (by omega)
  have e : ((i + 1 : Nat) : Int) = (i : Int) + 1 := by omega
  have e2 : ((i + 2 : Nat) : Int) = (i : Int) + 2 := by omega
  rw [e, e2] at q
  rw [q]
  congr 2
  omega
theorem cases1 (l : Bytes) : (l = [] ∧ l.take 1 = []) ∨ ∃ c r, l = c :: r ∧ l.take 1 = [c] := by
  cases l with
  | nil => exact .inl ⟨rfl, rfl⟩
  | cons c r => exact .inr ⟨c, r, rfl, rfl⟩
theorem is_point : ∀ c : UInt8, decide (V.str (tx [c]) = V.str (Str.ofString ".")) = (c == 46) := all_u8 (p := fun c => decide (V.str (tx [c]) = V.str (Str.ofString ".")) = (c == 46)) (by decide +kernel)
theorem no_point : decide (V.str (tx []) = V.str (Str.ofString ".")) = false := by decide +kernel
theorem plc_tw {tb : Bytes} {i : Nat} (p : UInt8 → Bool) (hi : i ≤ tb.length) : plc tb ((tb.drop i).dropWhile p) = i + ((tb.drop i).takeWhile p).length := by
  have q : ((tb.drop i).takeWhile p).length + ((tb.drop i).dropWhile p).length = (tb.drop i).length := by
    conv => rhs; rw [← List.takeWhile_append_dropWhile (p := p) (l := tb.drop i)]
    rw [List.length_append]
  rw [List.length_drop] at q
  unfold plc
  omega
theorem drop_tw (p : UInt8 → Bool) : ∀ l : Bytes, l.drop (l.takeWhile p).length = l.dropWhile p
  | [] => rfl
  | c :: r => by
    rw [List.takeWhile_cons, List.dropWhile_cons]
    split
    · rw [List.length_cons, List.drop_succ_cons, drop_tw p r]
    · rfl
/-- how long a number is -/
def numLen (l : Bytes) : Nat := if fracOf (l.drop (wholeOf l).length) = [] then (wholeOf l).length else (wholeOf l).length + 1 + (fracOf (l.drop (wholeOf l).length)).length
def spLen (g : Bytes → Nat) : Sp := fun vs H Q _ => ∃ (tb : Bytes) (i : Nat), vs = [.str (tx tb), .int i] ∧ tb.length ≤ 5000 ∧ (∀ c ∈ tb, c.toNat < 128) ∧ i < tb.length ∧ Q (.int ((i + g (tb.drop i) : Nat) : Int)) H
section
variable {P : Program} {w : World} {K : PySem.W.Frag} {mg : Str → Option Value} {base : Heap}
theorem scPastNu : FnScope ["text", "at", "end"] ["text", "at"] (defScope sPastNu) := ⟨rfl, rfl, rfl, by decide +kernel, rfl, by decide +kernel, by decide +kernel⟩
theorem ok_pastNu {f fD : Addr} {fd fdD : FuncData} (F : L2.Fun K "past_number" "past_number" sPastNu f fd) (ml : mg "len" = none) (FD : L2.Fun K "past_digits" "past_digits" sPastDi fD fdD) (bD : L2.Binds K fdD ["text", "at"] []) (mD : mg "past_digits" = some (.ref fD)) :
    FnOk P w K mg base CX0 2 f fd ["text", "at"] (spLen numLen) := by
  refine F.ok scPastNu (fun vs H Q E h => ?_) (fun cdv A outer s H vs Q E hr h => ?_)
  · obtain ⟨tb, i, rfl, _⟩ := h
    rfl
  obtain ⟨tb, i, rfl, h5, h128, hi, q⟩ := h
  refine ⟨_, pss_cons (ps_set (i := 2) scPastNu.nd rfl (Or.inl rfl) (pe_call (ok_pastDi FD ml) hr rfl mD FD.kp bD .nil pass0 (pa_cons (pv 0) (pa_cons (pv 1) pa_nil))))
    (pss_cons (ps_if (PW.pt (pw_and (pt_cmpR op_eq (pe_slice sl_str (pv 0) (po_some (pv 2)) (po_some (pe_op op_add (pv 2) pe_int))) pe_str (nomark _))
        (pw_and1 (pt_val (pe_bm0 PySem.F.plainAttrs_str PySem.F.slot_str_isdigit PySem.F.type_str_isdigit mt_isdigit (pe_slice sl_str (pv 0) (po_some (pe_op op_add (pv 2) pe_int)) (po_some (pe_op op_add (pv 2) pe_int))))))))
      (pss_one (ps_ret (pe_call (ok_pastDi FD ml) hr rfl mD FD.kp bD .nil pass0 (pa_cons (pv 0) (pa_cons (pe_op op_add (pv 2) pe_int) pa_nil))))) pss_nil)
    (pss_one (ps_ret (pv 2)))), ?_⟩
  have ew := plc_tw (tb := tb) (i := i) isDigit (Nat.le_of_lt hi)
  obtain ⟨e, he⟩ : ∃ e, e = i + (wholeOf (tb.drop i)).length := ⟨_, rfl⟩
  have ed : (tb.drop i).drop (wholeOf (tb.drop i)).length = tb.drop e := by rw [List.drop_drop, he]
  have ele : e ≤ tb.length := by
    have z := tw_len (p := isDigit) (tb.drop i)
    rw [List.length_drop] at z
    rw [he]
    unfold wholeOf
    omega
  have ew' : plc tb ((tb.drop i).dropWhile isDigit) = e := by rw [ew, he]; rfl
  refine ⟨_, rfl, _, rfl, tb, i, rfl, h5, h128, Nat.le_of_lt hi, ?_⟩
  show _
  rw [ew']
  refine ⟨_, rfl, _, rfl, _, rfl, _, rfl, _, _, rfl, rfl, _, rfl, _, rfl, txt_line h5, rfl, _, rfl, ?_⟩
  rw [cut_one]
  have fin0 : fracOf (tb.drop e) = [] → Q (.int ((e : Nat) : Int)) H := fun z => by
    unfold numLen at q
    rw [ed, if_pos z, ← he] at q
    exact q
  rcases cases1 (tb.drop e) with ⟨h0, h1⟩ | ⟨c, r, h0, h1⟩
  · rw [h1, no_point]
    refine iteF (iteF ⟨_, rfl, ?_⟩)
    exact fin0 (by rw [h0]; rfl)
  · rw [h1, is_point]
    cases h46 : c == 46 with
    | false =>
      refine iteF (iteF ⟨_, rfl, ?_⟩)
      refine fin0 ?_
      rw [h0]
      unfold fracOf
      rw [List.headD_cons, if_neg (by simpa using h46)]
    | true =>
      have hc : c = 46 := by simpa using h46
      have hr : r = tb.drop (e + 1) := by
        have z : (tb.drop e).drop 1 = r := by rw [h0]; rfl
        rw [← z, List.drop_drop]
      have ef : fracOf (tb.drop e) = r.takeWhile isDigit := by
        rw [h0]
        unfold fracOf
        rw [List.headD_cons, if_pos hc]
        rfl
      refine iteT ⟨_, rfl, _, rfl, _, _, rfl, rfl, _, rfl, _, rfl, _, _, rfl, rfl, _, rfl, _, rfl, txt_line h5, rfl, _, rfl, rfl, trivial, _, rfl, ?_⟩
      rw [cut_one', ← hr]
      have he1 : e < tb.length := by
        by_cases z : e < tb.length
        · exact z
        · rw [List.drop_eq_nil_of_le (by omega)] at h0
          cases h0
      rcases cases1 r with ⟨g0, g1⟩ | ⟨d, r2, g0, g1⟩
      · rw [g1]
        have z : Txt.isdigit (tx []) = false := by decide +kernel
        rw [z]
        refine iteF ⟨_, rfl, ?_⟩
        exact fin0 (by rw [ef, g0]; rfl)
      · rw [g1]
        have md : d ∈ tb := by
          have z : d ∈ tb.drop (e + 1) := by rw [← hr, g0]; exact List.mem_cons_self
          exact List.mem_of_mem_drop z
        have z : Txt.isdigit (tx [d]) = isDigit d := is_digit d (h128 d md)
        rw [z]
        cases hd : isDigit d with
        | false =>
          refine iteF ⟨_, rfl, ?_⟩
          refine fin0 ?_
          rw [ef, g0, List.takeWhile_cons, if_neg (by rw [hd]; exact Bool.false_ne_true)]
        | true =>
          refine iteT ⟨_, rfl, _, rfl, _, _, rfl, rfl, tb, e + 1, rfl, h5, h128, he1, ?_⟩
          have q2 := plc_tw (tb := tb) (i := e + 1) isDigit he1
          show Q (V.int ((plc tb ((tb.drop (e + 1)).dropWhile isDigit) : Nat) : Int)) H
          rw [q2, ← hr]
          unfold numLen at q
          rw [ed, ef, if_neg (by rw [g0, List.takeWhile_cons, if_pos hd]; simp)] at q
          have e9 : i + ((wholeOf (tb.drop i)).length + 1 + (r.takeWhile isDigit).length) = e + 1 + (r.takeWhile isDigit).length := by omega
          rw [e9] at q
          exact q
end
end SDP
set_option Elab.async false
set_option linter.all false
set_option maxRecDepth 100000
set_option maxHeartbeats 4000000
namespace SDP
open PySem PySem.Spec PyProof.Rows L2 SDX SD TL
open SeamNum (Bytes)
open SeamText (goesOn isLetter signs isWord)
open SeamPattern (isDigit)
section
variable {X : Cx} {x : Str} {pos : Pos}
end
theorem isWord_is (b : Bytes) : isWord b = WORDSB.contains b := by
  have h2 : (SeamText.ofPlaces b).isSome = [SeamNum.ascii "between", SeamNum.ascii "meet", SeamNum.ascii "foot", SeamNum.ascii "mirror", SeamNum.ascii "turn", SeamNum.ascii "shift"].contains b := by
    unfold SeamText.ofPlaces SeamText.fnOf
    rw [List.isSome_find?]
    have e : List.range 11 = [0, 1, 2, 3, 4, 5, 6, 7, 8, 9, 10] := rfl
    rw [e]
    simp only [List.any_cons, List.any_nil, List.contains_cons, List.contains_nil]
    have e5 : SeamText.wordOf 5 = SeamNum.ascii "between" := rfl
    have e6 : SeamText.wordOf 6 = SeamNum.ascii "meet" := rfl
    have e7 : SeamText.wordOf 7 = SeamNum.ascii "foot" := rfl
    have e8 : SeamText.wordOf 8 = SeamNum.ascii "mirror" := rfl
    have e9 : SeamText.wordOf 9 = SeamNum.ascii "turn" := rfl
    have e10 : SeamText.wordOf 10 = SeamNum.ascii "shift" := rfl
    rw [e5, e6, e7, e8, e9, e10]
    simp only [Bool.beq_comm (a := b)]
    rfl
  unfold isWord
  rw [h2, ofSums_some]
  unfold WORDSB
  simp only [List.contains_cons, List.contains_nil, Bool.or_false, Bool.or_assoc]
  rfl
def SIGNSB : Bytes := SeamNum.ascii "(),=+-*/;"
/-- a text that begins with a letter or a digit is no part of the signs -/
theorem not_signs {c : UInt8} {r : Bytes} (h : goesOn c = true) : (!(Builtin.Str.occurrences (tx SIGNSB) (tx (c :: r)) 0 (tx SIGNSB).length 1).isEmpty) = false := by
  cases e : !(Builtin.Str.occurrences (tx SIGNSB) (tx (c :: r)) 0 (tx SIGNSB).length 1).isEmpty with
  | false => rfl
  | true =>
    obtain ⟨i, hi, hs⟩ := (PySem.StrLaws.found_iff _ _).mp e
    rw [PySem.StrLaws.subAt_eq] at hs
    have hs' := beq_iff_eq.mp hs
    have e1 : (tx (c :: r)).cps.toList = c.toNat :: r.map UInt8.toNat := rfl
    have e2 : (tx SIGNSB).cps.toList = SIGNSB.map UInt8.toNat := rfl
    rw [e1, e2] at hs'
    have m1 : c.toNat ∈ (((SIGNSB.map UInt8.toNat).drop i).take (tx (c :: r)).length) := by rw [hs']; exact List.mem_cons_self
    have m2 : c.toNat ∈ SIGNSB.map UInt8.toNat := List.mem_of_mem_drop (List.mem_of_mem_take m1)
    obtain ⟨d, hd, ed⟩ := List.mem_map.mp m2
    have ed' : d = c := UInt8.toNat_inj.mp ed
    subst ed'
    have all : ∀ x ∈ SIGNSB, goesOn x = false := by decide +kernel
    rw [all d hd] at h
    cases h
theorem one_sign (c : UInt8) : (!(Builtin.Str.occurrences (tx SIGNSB) (tx [c]) 0 (tx SIGNSB).length 1).isEmpty) = signs.contains c := by
  have q := PySem.StrLaws.found_one (tx SIGNSB) c.toNat
  have e : (⟨#[c.toNat]⟩ : Str) = tx [c] := rfl
  rw [e] at q
  rw [q]
  have all : ∀ c : UInt8, decide (c.toNat ∈ (tx SIGNSB).cps.toList) = signs.contains c := all_u8 (p := fun c => decide (c.toNat ∈ (tx SIGNSB).cps.toList) = signs.contains c) (by decide +kernel)
  exact all c
/-- what a token's text may be, and its kind -/
inductive Part : Bytes → Bytes → Prop
  | name {c : UInt8} {r : Bytes} : isLetter c = true → (∀ x ∈ c :: r, goesOn x = true) → Part (c :: r) (kindName (c :: r))
  | num {x a d : Bytes} : NumText x a d → Part x (kindNum a d)
  | sign {c : UInt8} : isLetter c = false → isDigit c = false → c.toNat < 128 → Part [c] (kindSign c)
theorem letter_digit : ∀ c : UInt8, isLetter c = true → isDigit c = false := all_u8 (p := fun c => isLetter c = true → isDigit c = false) (by decide +kernel)
theorem goesOn_128 : ∀ c : UInt8, goesOn c = true → c.toNat < 128 := all_u8 (p := fun c => goesOn c = true → c.toNat < 128) (by decide +kernel)
theorem digit_letter : ∀ c : UInt8, isDigit c = true → isLetter c = false := all_u8 (p := fun c => isDigit c = true → isLetter c = false) (by decide +kernel)
section
variable {P : Program} {w : World} {K : PySem.W.Frag} {mg : Str → Option Value} {base : Heap}
theorem scPastTo : FnScope ["text", "at"] ["text", "at"] (defScope sPastTo) := ⟨rfl, rfl, rfl, by decide +kernel, rfl, by decide +kernel, by decide +kernel⟩
theorem ok_pastTo {f fD fL fN : Addr} {fd fdD fdL fdN : FuncData} (F : L2.Fun K "past_token" "past_token" sPastTo f fd) (ml : mg "len" = none) (FD : L2.Fun K "past_digits" "past_digits" sPastDi fD fdD) (bD : L2.Binds K fdD ["text", "at"] []) (mD : mg "past_digits" = some (.ref fD))
    (FL : L2.Fun K "past_letters" "past_letters" sPastLe fL fdL) (bL : L2.Binds K fdL ["text", "at"] []) (mL : mg "past_letters" = some (.ref fL)) (FN : L2.Fun K "past_number" "past_number" sPastNu fN fdN) (bN : L2.Binds K fdN ["text", "at"] []) (mN : mg "past_number" = some (.ref fN)) :
    FnOk P w K mg base CX0 3 f fd ["text", "at"] (spLen tokLen) := by
  refine F.ok scPastTo (fun vs H Q E h => ?_) (fun cdv A outer s H vs Q E hr h => ?_)
  · obtain ⟨tb, i, rfl, _⟩ := h
    rfl
  obtain ⟨tb, i, rfl, h5, h128, hi, q⟩ := h
  have hr1 : Room 1 _ := hr.mono (by decide)
  refine ⟨_, pss_cons (ps_if (pt_val (pe_bm0 PySem.F.plainAttrs_str PySem.F.slot_str_isalpha PySem.F.type_str_isalpha mt_isalpha (pe_item_str (pv 0) (pv 1) (fun _ _ => rfl))))
      (pss_one (ps_ret (pe_call (ok_pastLe FL ml) hr1 rfl mL FL.kp bL .nil pass0 (pa_cons (pv 0) (pa_cons (pv 1) pa_nil))))) pss_nil)
    (pss_cons (ps_if (pt_val (pe_bm0 PySem.F.plainAttrs_str PySem.F.slot_str_isdigit PySem.F.type_str_isdigit mt_isdigit (pe_item_str (pv 0) (pv 1) (fun _ _ => rfl))))
      (pss_one (ps_ret (pe_call (ok_pastNu FN ml FD bD mD) hr rfl mN FN.kp bN .nil pass0 (pa_cons (pv 0) (pa_cons (pv 1) pa_nil))))) pss_nil)
    (pss_one (ps_ret (pe_op op_add (pv 1) pe_int)))), ?_⟩
  obtain ⟨x, hx, mx⟩ := get_of hi
  have ed := drop_cons hx
  refine ⟨_, rfl, _, rfl, tx tb, _, x.toNat, rfl, rfl, by omega, by omega, by rw [tx_len]; omega, tx_get hx, rfl, _, rfl, rfl, trivial, _, rfl, ?_⟩
  rw [is_alpha x (h128 x mx)]
  have eh : (tb.drop i).headD 0 = x := by rw [ed]; rfl
  cases hL : isLetter x with
  | true =>
    refine iteT ⟨_, rfl, _, rfl, tb, i, rfl, h5, h128, Nat.le_of_lt hi, ?_⟩
    show Q (V.int ((plc tb ((tb.drop i).dropWhile goesOn) : Nat) : Int)) H
    rw [plc_tw goesOn (Nat.le_of_lt hi)]
    unfold tokLen at q
    rw [eh, if_pos hL] at q
    exact q
  | false =>
    refine iteF ?_
    refine ⟨_, rfl, _, rfl, tx tb, _, x.toNat, rfl, rfl, by omega, by omega, by rw [tx_len]; omega, tx_get hx, rfl, _, rfl, rfl, trivial, _, rfl, ?_⟩
    rw [is_digit x (h128 x mx)]
    unfold tokLen at q
    rw [eh, if_neg (by rw [hL]; exact Bool.false_ne_true)] at q
    cases hD : isDigit x with
    | true =>
      rw [if_pos hD] at q
      exact iteT ⟨_, rfl, _, rfl, tb, i, rfl, h5, h128, hi, q⟩
    | false =>
      rw [if_neg (by rw [hD]; exact Bool.false_ne_true)] at q
      refine iteF ⟨_, rfl, _, _, rfl, rfl, ?_⟩
      exact q
/-! ### kind_of -/
def spKind : Sp := fun vs H Q _ => ∃ (x k : Bytes), vs = [.str (tx x)] ∧ x.length ≤ 5000 ∧ Part x k ∧ ∀ H', Same H H' → Q (.str (tx k)) H'
structure TokG (K : PySem.W.Frag) (mg : Str → Option Value) : Prop where
  len : mg "len" = none
  max : mg "max" = none
  WORDS : Gt K mg "WORDS" WORDSB
  SIGNS : Gs mg "SIGNS" SIGNSB
  NAME : Gs mg "NAME" sName
  NUMBER : Gs mg "NUMBER" sNumber
  BAD : Gs mg "BAD" sBad
  END : Gs mg "END" sEnd
  LN : Gi mg "LONGEST_NAME" 16
  MD : Gi mg "MOST_DIGITS" 18
theorem scKindOf : FnScope ["part", "row"] ["part"] (defScope sKindOf) := ⟨rfl, rfl, rfl, by decide +kernel, rfl, by decide +kernel, by decide +kernel⟩
theorem split_rows {x a d : Bytes} (N : NumText x a d) : Txt.split (tx x) (Str.ofString ".") = (if d = [] then [tx a] else [tx a, tx d]) := by
  have no : ∀ l : Bytes, (∀ c ∈ l, isDigit c = true) → (46 : Nat) ∉ tl (tx l) := fun l hl z => by
    have z' : (46 : Nat) ∈ l.map UInt8.toNat := z
    obtain ⟨c, hc, e⟩ := List.mem_map.mp z'
    have q := isDigit_iff (hl c hc)
    omega
  have ey : tl (Str.ofString ".") = 46 :: [] := by decide +kernel
  have q := split_join (y := Str.ofString ".") (s := 46) (S := []) ey (by decide +kernel) (parts := if d = [] then [tx a] else [tx a, tx d]) (by split <;> simp) (by
    split
    · intro p hp
      rw [List.mem_singleton.mp hp]
      exact no a N.ha
    · intro p hp
      rcases List.mem_cons.mp hp with e | m
      · rw [e]
        exact no a N.ha
      · rw [List.mem_singleton.mp m]
        exact no d N.hd)
  rw [← q]
  congr 1
  rw [join_eq]
  refine ext_tl ?_
  rw [tl_join, ey, N.is]
  by_cases h : d = []
  · rw [if_pos h, if_pos h]
    rfl
  · rw [if_neg h, if_neg h]
    show (a ++ 46 :: d).map UInt8.toNat = (a.map UInt8.toNat) ++ ([46] ++ d.map UInt8.toNat)
    rw [List.map_append]
    rfl
theorem ok_kindOf {f : Addr} {fd : FuncData} (F : L2.Fun K "kind_of" "kind_of" sKindOf f fd) (T : TokG K mg) : FnOk P w K mg base CX0 1 f fd ["part"] spKind := by
  refine F.ok scKindOf (fun vs H Q E h => ?_) (fun cdv A outer s H vs Q E hr h => ?_)
  · obtain ⟨x, k, rfl, _⟩ := h
    rfl
  obtain ⟨x, k, rfl, h5, hp, q⟩ := h
  obtain ⟨aW, gW, sW⟩ := T.WORDS
  refine ⟨_, pss_cons (ps_if (PW.pt (pw_or (pt_cmpR op_in_seq (pv 0) (pe_gr rfl gW) (by rfl)) (pw_or1 (pt_cmpR op_in_str (pv 0) (pe_gs rfl T.SIGNS) (by rfl))))) (pss_one (ps_ret (pv 0))) pss_nil)
    (pss_cons (ps_if (PW.pt (pw_and (pt_val (pe_bm0 PySem.F.plainAttrs_str PySem.F.slot_str_isalpha PySem.F.type_str_isalpha mt_isalpha (pe_item_str (pv 0) pe_int (fun _ _ => rfl))))
        (pw_and1 (pt_cmpR op_le (pe_callB call_len_str rfl T.len PySem.boot_len (pa_cons (pv 0) pa_nil)) (pe_gi rfl T.LN) (nomark _))))) (pss_one (ps_ret (pe_gs rfl T.NAME))) pss_nil)
    (pss_cons (ps_if (PW.pt (pw_and (pt_val (pe_bm0 PySem.F.plainAttrs_str PySem.F.slot_str_isdigit PySem.F.type_str_isdigit mt_isdigit (pe_item_str (pv 0) pe_int (fun _ _ => rfl))))
        (pw_and1 (pt_cmpR op_le (pe_callB (cr_max rfl) rfl T.max PyProof.Rows.boot_max (pa_cons (pe_lc (own := [("row", 1)]) (g := gName 1) (tt := tYes) rfl scKindOf.nd
            (pi_list (pe_bm PySem.F.plainAttrs_str PySem.F.slot_str_split PySem.F.type_str_split mt_split (pv 0) (pa_cons pe_str pa_nil))) (blkOk_by (N := ["part", "row"]) (sc := defScope sKindOf) (by decide +kernel))
            (fun _ _ _ _ _ => pg_name (i := 1) scKindOf.nd rfl (Or.inl rfl)) (fun _ _ _ _ _ => pts_nil) (fun _ _ _ _ _ => pe_callB call_len_str rfl T.len PySem.boot_len (pa_cons (pv 1) pa_nil))) pa_nil)) (pe_gi rfl T.MD) (nomark _))))) (pss_one (ps_ret (pe_gs rfl T.NUMBER))) pss_nil)
    (pss_one (ps_ret (pe_gs rfl T.BAD))))), ?_⟩
  refine ⟨_, rfl, _, _, rfl, .inr (sW H), rfl, flat_tx _, _, rfl, ?_⟩
  show if inV _ _ = true then _ else _
  rw [inV_tx, ← isWord_is]
  have qs := q H (Same.refl H)
  -- what follows the first test
  have after : isWord x = false → ∀ (R : Prop), (isWord x = false → R) → R := fun h R k => k h
  cases hp with
  | name hL hall =>
    rename_i c r
    have hg := hall c List.mem_cons_self
    have hc := goesOn_128 c hg
    cases hw : isWord (c :: r) with
    | true =>
      have ek : kindName (c :: r) = c :: r := if_pos hw
      rw [ek] at qs
      exact iteT (iteT ⟨_, rfl, qs⟩)
    | false =>
      refine iteF ⟨_, rfl, _, _, rfl, rfl, _, rfl, ?_⟩
      rw [not_signs hg]
      refine iteF ?_
      refine ⟨_, rfl, tx (c :: r), _, c.toNat, rfl, rfl, by decide, by decide, by rw [tx_len]; simp, tx_get (i := 0) rfl, rfl, _, rfl, rfl, trivial, _, rfl, ?_⟩
      rw [is_alpha c hc, hL]
      refine iteT ⟨_, rfl, _, rfl, txt_line h5, _, _, rfl, rfl, _, rfl, ?_⟩
      rw [tx_len]
      have ek : kindName (c :: r) = if (c :: r).length ≤ 16 then sName else sBad := if_neg (by rw [hw]; exact Bool.false_ne_true)
      rw [ek] at qs
      refine ite2 (fun z => ?_) (fun z => ?_)
      · have z' := of_decide_eq_true z
        rw [if_pos (by omega)] at qs
        exact qs
      · have z' := of_decide_eq_false (Bool.eq_false_iff.mpr z)
        rw [if_neg (by omega)] at qs
        refine ⟨_, rfl, tx (c :: r), _, c.toNat, rfl, rfl, by decide, by decide, by rw [tx_len]; simp, tx_get (i := 0) rfl, rfl, _, rfl, rfl, trivial, _, rfl, ?_⟩
        rw [is_digit c hc, letter_digit c hL]
        exact iteF (iteF qs)
  | num N =>
    rename_i a d
    obtain ⟨c, r, ex, hD⟩ : ∃ c r, x = c :: r ∧ isDigit c = true := by
      have hx := N.is
      cases ha : a with
      | nil => exact absurd ha N.ne
      | cons c r =>
        rw [ha] at hx
        by_cases z : d = []
        · rw [if_pos z] at hx
          exact ⟨c, r, hx, N.ha c (by rw [ha]; exact List.mem_cons_self)⟩
        · rw [if_neg z] at hx
          exact ⟨c, r ++ 46 :: d, hx, N.ha c (by rw [ha]; exact List.mem_cons_self)⟩
    have hg := digit_goesOn hD
    have hc := goesOn_128 c hg
    have hw : isWord x = false := by
      rw [isWord_is, ex]
      cases z : WORDSB.contains (c :: r) with
      | false => rfl
      | true =>
        have m := List.contains_iff_mem.mp z
        have all : ∀ y ∈ WORDSB, isDigit (y.headD 0) = false := by decide +kernel
        have q := all _ m
        rw [List.headD_cons, hD] at q
        cases q
    rw [hw]
    refine iteF ⟨_, rfl, _, _, rfl, rfl, _, rfl, ?_⟩
    have ns := not_signs (r := r) hg
    rw [← ex] at ns
    rw [ns]
    refine iteF ?_
    have g0 : (tx x).cps[0]? = some c.toNat := tx_get (by rw [ex]; rfl)
    have l0 : (0 : Int) < (tx x).length := by rw [tx_len, ex]; simp
    refine ⟨_, rfl, tx x, _, c.toNat, rfl, rfl, by decide, by decide, l0, g0, rfl, _, rfl, rfl, trivial, _, rfl, ?_⟩
    rw [is_alpha c hc, digit_letter c hD]
    refine iteF (iteF ?_)
    refine ⟨_, rfl, tx x, _, c.toNat, rfl, rfl, by decide, by decide, l0, g0, rfl, _, rfl, rfl, trivial, _, rfl, ?_⟩
    rw [is_digit c hc, hD]
    refine iteT ?_
    refine ⟨_, rfl, rfl, _, _, rfl, rfl, by decide +kernel, by rw [tx_len, sizeLine_eq]; omega, fun p hp => ?_⟩
    rw [split_rows N]
    refine ⟨p, rfl, ⟨_, SqL.of upd_same⟩, fun D hD' => ?_⟩
    obtain ⟨rows, hrows⟩ : ∃ rows, rows = (if d = [] then [tx a] else [tx a, tx d]) := ⟨_, rfl⟩
    rw [← hrows]
    rw [← hrows] at hD'
    have short : ∀ z ∈ rows, z.length ≤ x.length := by
      have hx := N.is
      intro z hz
      rw [hrows] at hz
      by_cases hde : d = []
      · rw [if_pos hde] at hz hx
        rw [List.mem_singleton.mp hz, tx_len, hx]
        exact Nat.le_refl _
      · rw [if_neg hde] at hz hx
        rcases List.mem_cons.mp hz with e | m
        · rw [e, tx_len, hx, List.length_append]
          omega
        · rw [List.mem_singleton.mp m, tx_len, hx, List.length_append, List.length_cons]
          omega
    have npD : p ≠ D := fun z => by
      rw [z, upd_same] at hD'
      cases hD'
    have hDH : H D = none := by
      rw [upd_ne (Ne.symm npD)] at hD'
      exact hD'
    refine lc_list (xs := rows.map V.str) (fun i H' => Same (upd H p (.lst (rows.map V.str))) H' ∧ H' D = some (.lst (((rows.take i).map fun z => ((z.length : Nat) : Int)).map V.int))) ⟨same_new hD' _, upd_same⟩ (fun i H' _ ⟨s1, _⟩ => SqL.of (s1 _ _ upd_same)) (fun i y H' hi ⟨s1, s2⟩ => ?_) (fun H' ⟨s1, s2⟩ => ?_)
    · rw [List.getElem?_map] at hi
      cases e : rows[i]? with
      | none =>
        rw [e] at hi
        cases hi
      | some z =>
        rw [e] at hi
        cases hi
        have mz : z ∈ rows := List.mem_of_getElem? e
        have lz := short z mz
        have li : i < rows.length := (List.getElem?_eq_some_iff.mp e).1
        have lr : rows.length ≤ 2 := by
          rw [hrows]
          split <;> simp
        refine ⟨rfl, _, rfl, _, rfl, by rw [sizeLine_eq]; omega, _, s2, by rw [List.length_map, List.length_map, List.length_take, sizeLine_eq]; omega, ?_, ?_⟩
        · intro b o hb
          rw [upd_ne (ne_of_none hb hD')]
          exact s1 b o hb
        · rw [upd_same, List.take_add_one, e, List.map_append, List.map_append]
          rfl
    · rw [List.length_map, List.take_length] at s2
      refine ⟨D, rows.map fun z => ((z.length : Nat) : Int), rfl, SqL.of s2, ?_, fun m hm hall => ?_⟩
      · rw [List.length_map, hrows]
        split <;> simp
      · refine ⟨_, _, rfl, rfl, _, rfl, ?_⟩
        have sm : Same H H' := (same_new hp _).trans s1
        have qk := q H' sm
        have em : decide (m ≤ 18) = decide (a.length ≤ 18 ∧ d.length ≤ 18) := by
          rw [hrows] at hm hall
          by_cases hde : d = []
          · rw [if_pos hde] at hm hall
            have hm' : m = ((tx a).length : Int) := by simpa using hm
            rw [tx_len] at hm'
            rw [hm', hde]
            simp only [List.length_nil, Nat.zero_le, and_true, decide_eq_decide]
            omega
          · rw [if_neg hde] at hm hall
            have h1 := hall ((tx a).length : Int) (by simp)
            have h2 := hall ((tx d).length : Int) (by simp)
            have hm' : m = ((tx a).length : Int) ∨ m = ((tx d).length : Int) := by simpa using hm
            rw [tx_len] at h1 h2
            rw [tx_len, tx_len] at hm'
            rw [decide_eq_decide]
            omega
        rw [em]
        refine ite2 (fun z => ?_) (fun z => ?_)
        · have z' := of_decide_eq_true z
          have ek : kindNum a d = sNumber := if_pos z'
          rw [ek] at qk
          exact qk
        · have z' := of_decide_eq_false (Bool.eq_false_iff.mpr z)
          have ek : kindNum a d = sBad := if_neg z'
          rw [ek] at qk
          exact qk
  | sign hL hD hc =>
    rename_i c
    have hw : isWord [c] = (isLetter c && isWord [c]) := by
      rw [hL, isWord_is]
      have all : ∀ c : UInt8, isLetter c = false → WORDSB.contains [c] = false := all_u8 (p := fun c => isLetter c = false → WORDSB.contains [c] = false) (by decide +kernel)
      rw [all c hL]
      rfl
    rw [hw, hL]
    refine iteF ⟨_, rfl, _, _, rfl, rfl, _, rfl, ?_⟩
    rw [one_sign]
    cases hs : signs.contains c with
    | true =>
      have ek : kindSign c = [c] := if_pos hs
      rw [ek] at qs
      exact iteT ⟨_, rfl, qs⟩
    | false =>
      have ek : kindSign c = sBad := if_neg (by rw [hs]; exact Bool.false_ne_true)
      rw [ek] at qs
      refine iteF ?_
      refine ⟨_, rfl, tx [c], _, c.toNat, rfl, rfl, by decide, by decide, by rw [tx_len]; simp, tx_get (i := 0) rfl, rfl, _, rfl, rfl, trivial, _, rfl, ?_⟩
      rw [is_alpha c hc, hL]
      refine iteF (iteF ?_)
      refine ⟨_, rfl, tx [c], _, c.toNat, rfl, rfl, by decide, by decide, by rw [tx_len]; simp, tx_get (i := 0) rfl, rfl, _, rfl, rfl, trivial, _, rfl, ?_⟩
      rw [is_digit c hc, hD]
      exact iteF (iteF qs)
end
end SDP
set_option Elab.async false
set_option linter.all false
set_option maxRecDepth 100000
set_option maxHeartbeats 4000000
namespace SDP
open PySem PySem.Spec PyProof.Rows L2 SDX SD TL
open SeamNum (Bytes)
open SeamText (goesOn isLetter signs isWord)
open SeamPattern (isDigit)
section
variable {P : Program} {w : World} {K : PySem.W.Frag} {mg : Str → Option Value} {base : Heap}
end
end SDP
set_option Elab.async false
namespace SD
open SeamNum SeamPoly SeamPattern SeamText
/-- the program's tokens: kind, text, place -/
abbrev PT := Bytes × Bytes × Nat
def PTok (t : PT) (q : Nat × Tok) : Prop := t.2.2 = q.1 ∧ TokR t.1 t.2.1 q.2
/-- what the reader still has, what the words still have -/
inductive Rest (bad : Option Nat) (len : Nat) : List PT → Toks → Prop
  | done : bad = none → Rest bad len [(sEnd, [], len)] []
  | stop {p : Nat} {x : Bytes} {l : List PT} : bad = some p → Rest bad len ((sBad, x, p) :: l) []
  | cons {a : PT} {q : Nat × Tok} {l : List PT} {t : Toks} : PTok a q → Rest bad len l t → Rest bad len (a :: l) (q :: t)
inductive All2 : List PT → Toks → Prop
  | nil : All2 [] []
  | cons {a : PT} {q : Nat × Tok} {l : List PT} {t : Toks} : PTok a q → All2 l t → All2 (a :: l) (q :: t)
theorem All2.snoc {a : PT} {q : Nat × Tok} (h : PTok a q) : ∀ {l : List PT} {t : Toks}, All2 l t → All2 (l ++ [a]) (t ++ [q])
  | _, _, .nil => .cons h .nil
  | _, _, .cons x r => .cons x (r.snoc h)
theorem Rest.of {bad : Option Nat} {len : Nat} {m : List PT} (h : Rest bad len m []) : ∀ {l : List PT} {t : Toks}, All2 l t → Rest bad len (l ++ m) t
  | _, _, .nil => h
  | _, _, .cons x r => .cons x (Rest.of h r)
theorem num_text {c : UInt8} {r : Bytes} (hD : isDigit c = true) : NumText ((c :: r).take (tokLen (c :: r))) (wholeOf (c :: r)) (fracOf ((c :: r).drop (wholeOf (c :: r)).length)) := by
  have hL : ¬ isLetter c = true := by
    have all : ∀ c : UInt8, isDigit c = true → ¬ isLetter c = true := all_u8 (p := fun c => isDigit c = true → ¬ isLetter c = true) (by decide +kernel)
    exact all c hD
  have eT : tokLen (c :: r) = (if fracOf ((c :: r).drop (wholeOf (c :: r)).length) = [] then (wholeOf (c :: r)).length else (wholeOf (c :: r)).length + 1 + (fracOf ((c :: r).drop (wholeOf (c :: r)).length)).length) := by
    unfold tokLen
    rw [List.headD_cons, if_neg hL, if_pos hD]
  have pos : 1 ≤ (wholeOf (c :: r)).length := tw_pos hD
  have tkA : (c :: r).take (wholeOf (c :: r)).length = wholeOf (c :: r) := tw_take _
  have allA : ∀ x ∈ wholeOf (c :: r), isDigit x = true := tw_all _
  rw [eT]
  generalize (c :: r) = l at *
  generalize ea : wholeOf l = a at *
  have allD : ∀ x ∈ fracOf (l.drop a.length), isDigit x = true := by
    unfold fracOf
    split
    · exact tw_all _
    · intro x hx
      simp at hx
  refine ⟨allA, allD, fun z => by rw [z] at pos; simp at pos, ?_⟩
  by_cases hne : fracOf (l.drop a.length) = []
  · rw [if_pos hne, if_pos hne]
    exact tkA
  · rw [if_neg hne, if_neg hne]
    unfold fracOf at hne ⊢
    by_cases h46 : (l.drop a.length).headD 0 = 46
    · rw [if_pos h46] at hne ⊢
      have q1 : (l.drop a.length).drop 1 = l.drop (a.length + 1) := by rw [List.drop_drop]
      rw [q1] at hne ⊢
      have hne2 : a.length < l.length := by
        by_cases z : a.length < l.length
        · exact z
        · rw [List.drop_eq_nil_of_le (by omega)] at hne
          simp at hne
      have q2 : l.drop a.length = 46 :: l.drop (a.length + 1) := by
        have z := List.drop_eq_getElem_cons hne2
        rw [z] at h46 ⊢
        rw [List.headD_cons] at h46
        rw [h46]
      have e : l = a ++ (46 :: l.drop (a.length + 1)) := by
        rw [← q2]
        conv => lhs; rw [← List.take_append_drop a.length l, tkA]
      have e2 : a.length + 1 + ((l.drop (a.length + 1)).takeWhile isDigit).length = a.length + (((l.drop (a.length + 1)).takeWhile isDigit).length + 1) := by omega
      rw [e2]
      conv => lhs; rw [e]
      rw [List.take_length_add_append, List.take_succ_cons]
      have e3 : (a ++ 46 :: l.drop (a.length + 1)).drop (a.length + 1) = l.drop (a.length + 1) := by rw [← e]
      rw [e3, tw_take]
    · rw [if_neg h46] at hne
      exact absurd rfl hne
/-- the error's kind and place -/
def errOf (bad : Option Nat) (len : Nat) : Option Nat → Nat × Nat
  | some p => (2, p)
  | none => match bad with
    | some p => (1, p)
    | none => (2, len)
end SD
set_option Elab.async false
set_option linter.all false
set_option maxRecDepth 100000
set_option maxHeartbeats 4000000
namespace SDP
open PySem PySem.Spec PyProof.Rows L2 SDX SD TL
open SeamNum (Bytes)
open SeamText (goesOn isLetter signs isWord)
open SeamPattern (isDigit)
theorem part_at {c : UInt8} {r : Bytes} (hc : c.toNat < 128) : Part ((c :: r).take (tokLen (c :: r))) (kindL (c :: r)) := by
  by_cases hL : isLetter c = true
  · have hg : goesOn c = true := by unfold goesOn; rw [hL]; rfl
    have eT : tokLen (c :: r) = ((c :: r).takeWhile goesOn).length := by
      unfold tokLen
      rw [List.headD_cons, if_pos hL]
    have eK : kindL (c :: r) = kindName ((c :: r).takeWhile goesOn) := by
      unfold kindL
      rw [List.headD_cons, if_pos hL]
    rw [eT, eK, tw_take]
    have e : (c :: r).takeWhile goesOn = c :: r.takeWhile goesOn := by rw [List.takeWhile_cons, if_pos hg]
    have all : ∀ x ∈ (c :: r).takeWhile goesOn, goesOn x = true := tw_all _
    rw [e] at all ⊢
    exact .name hL all
  · by_cases hD : isDigit c = true
    · have eK : kindL (c :: r) = kindNum (wholeOf (c :: r)) (fracOf ((c :: r).drop (wholeOf (c :: r)).length)) := by
        unfold kindL
        rw [List.headD_cons, if_neg hL, if_pos hD]
      rw [eK]
      exact .num (num_text hD)
    · have eT : tokLen (c :: r) = 1 := by
        unfold tokLen
        rw [List.headD_cons, if_neg hL, if_neg hD]
      have eK : kindL (c :: r) = kindSign c := by
        unfold kindL
        rw [List.headD_cons, if_neg hL, if_neg hD]
      rw [eT, eK]
      exact .sign (by simpa using hL) (by simpa using hD) hc
/-- one token's tuple -/
def tupOf (t : PT) : HO := .tup [.str (tx t.1), .str (tx t.2.1), .int (t.2.2 : Int)]
/-- the tokens' list at p -/
def TokL (H : Hp) (p : Addr) (pt : List PT) : Prop := ∃ as : List Addr, H p = some (.lst (as.map V.ref)) ∧ Paired (fun a t => H a = some (tupOf t)) as pt
def spToksOf (K : PySem.W.Frag) : Sp := fun vs H Q _ => ∃ (a : Addr) (b : Bytes), vs = [.ref a] ∧ BytesL K H a b ∧ b.length ≤ 4200 ∧
  ∀ (H' : Hp) (p : Addr) (pt : List PT), Same H H' → H p = none → TokL H' p pt → pt.length ≤ b.length + 1 → Rest (lx 0 b).2 b.length pt (lx 0 b).1 → Q (.ref p) H'
/-- behind some tokens: the words' tokens so far, or there was one that no token begins -/
def Far (b : Bytes) (j : Nat) (pts : List PT) : Prop :=
  (∃ dn, lx 0 b = (dn ++ (lx j ((b.map kn).drop j)).1, (lx j ((b.map kn).drop j)).2) ∧ All2 pts dn) ∨ (∃ p x l m, pts = l ++ (sBad, x, p) :: m ∧ All2 l (lx 0 b).1 ∧ (lx 0 b).2 = some p)
theorem far_end {b : Bytes} {pts : List PT} (h : Far b b.length pts) : Rest (lx 0 b).2 b.length (pts ++ [(sEnd, [], b.length)]) (lx 0 b).1 := by
  rcases h with ⟨dn, e, a⟩ | ⟨p, x, l, m, rfl, a, e⟩
  · rw [List.drop_eq_nil_of_le (by rw [List.length_map]; exact Nat.le_refl _), lx_nil] at e
    rw [e, List.append_nil]
    exact Rest.of (.done rfl) a
  · rw [List.append_assoc]
    exact Rest.of (.stop e) a
theorem far_more {b : Bytes} {j : Nat} {pts : List PT} {c : UInt8} {r : Bytes} (h : Far b j pts) (hd : (b.map kn).drop j = c :: r) (h1 : ¬ (c = 32 ∨ c = 10)) (h2 : c ≠ 35) {j2 : Nat} (hj : j2 = plc (b.map kn) (skipB false ((b.map kn).drop (j + tokLen (c :: r))))) :
    Far b j2 (pts ++ [(kindL (c :: r), (c :: r).take (tokLen (c :: r)), j)]) := by
  rcases h with ⟨dn, e, a⟩ | ⟨p, x, l, m, rfl, a, e⟩
  · rw [hd] at e
    obtain ⟨k1, k2, hk⟩ := tok_at (p := j) (r := r) h1 h2
    have hlen : j + tokLen (c :: r) ≤ (b.map kn).length := by
      have z := congrArg List.length hd
      rw [List.length_drop] at z
      rw [List.length_cons] at z k2
      omega
    have hskip : lx (j + tokLen (c :: r)) ((c :: r).drop (tokLen (c :: r))) = lx j2 ((b.map kn).drop j2) := by
      have e1 : (c :: r).drop (tokLen (c :: r)) = (b.map kn).drop (j + tokLen (c :: r)) := by rw [← hd, List.drop_drop]
      have suf : skipB false ((b.map kn).drop (j + tokLen (c :: r))) <:+ b.map kn := suf_drop (skip_suf _ _)
      rw [e1, lx_skip _ _ _ (Nat.le_refl _), hj, plc_drop suf]
      congr 1
      have q := (skip_suf false ((b.map kn).drop (j + tokLen (c :: r)))).length_le
      rw [List.length_drop] at q ⊢
      unfold plc
      omega
    rcases hk with ⟨kb, kl⟩ | ⟨kb, tok, kt, kl⟩
    · rw [kl] at e
      refine .inr ⟨j, _, pts, [], by rw [kb], ?_, by rw [e]⟩
      rw [e, List.append_nil]
      exact a
    · rw [kl, hskip] at e
      refine .inl ⟨dn ++ [(j, tok)], ?_, a.snoc ⟨rfl, kt⟩⟩
      rw [e, List.append_assoc]
      rfl
  · exact .inr ⟨p, x, l, m ++ [_], by rw [List.append_assoc]; rfl, a, e⟩
structure ToksF (K : PySem.W.Frag) (mg : Str → Option Value) (fT fB fR fP fL fD fN fK : Addr) (dT dB dR dP dL dD dN dK : FuncData) : Prop where
  G : TokG K mg
  X : TextG K mg
  FT : L2.Fun K "text_of" "text_of" sTextOf fT dT
  bT : L2.Binds K dT ["t"] []
  mT : mg "text_of" = some (.ref fT)
  FB : L2.Fun K "past_blanks" "past_blanks" sPastBl fB dB
  bB : L2.Binds K dB ["text", "at"] []
  mB : mg "past_blanks" = some (.ref fB)
  FR : L2.Fun K "past_remark" "past_remark" sPastRe fR dR
  bR : L2.Binds K dR ["text", "at"] []
  mR : mg "past_remark" = some (.ref fR)
  FP : L2.Fun K "past_token" "past_token" sPastTo fP dP
  bP : L2.Binds K dP ["text", "at"] []
  mP : mg "past_token" = some (.ref fP)
  FL : L2.Fun K "past_letters" "past_letters" sPastLe fL dL
  bL : L2.Binds K dL ["text", "at"] []
  mL : mg "past_letters" = some (.ref fL)
  FD : L2.Fun K "past_digits" "past_digits" sPastDi fD dD
  bD : L2.Binds K dD ["text", "at"] []
  mD : mg "past_digits" = some (.ref fD)
  FN : L2.Fun K "past_number" "past_number" sPastNu fN dN
  bN : L2.Binds K dN ["text", "at"] []
  mN : mg "past_number" = some (.ref fN)
  FK : L2.Fun K "kind_of" "kind_of" sKindOf fK dK
  bK : L2.Binds K dK ["part"] []
  mK : mg "kind_of" = some (.ref fK)
section
variable {P : Program} {w : World} {K : PySem.W.Frag} {mg : Str → Option Value} {base : Heap} {fT fB fR fP fL fD fN fK : Addr} {dT dB dR dP dL dD dN dK : FuncData}
theorem scToksOf : FnScope ["t", "text", "tokens", "at", "end"] ["t"] (defScope sToksOf) := ⟨rfl, rfl, rfl, by decide +kernel, rfl, by decide +kernel, by decide +kernel⟩
theorem tokL_app {H : Hp} {D p : Addr} {as : List Addr} {pts : List PT} {t' : PT} (h : Paired (fun a t => H a = some (tupOf t)) as pts) (hD : H D = some (.lst (as.map V.ref))) (hp : H p = none) :
    Paired (fun a t => upd (upd H p (tupOf t')) D (.lst (as.map V.ref ++ [.ref p])) a = some (tupOf t)) as pts := by
  refine paired_map (fun a t h => ?_) h
  have h1 : a ≠ D := (ne_of hD h (fun z => by cases z)).symm
  rw [upd_ne h1, upd_ne (ne_of_none h hp)]
  exact h
theorem tokL_new {H : Hp} {D p : Addr} {as : List Addr} {t : PT} (hD : H D = some (.lst (as.map V.ref))) (hp : H p = none) : upd (upd H p (tupOf t)) D (.lst (as.map V.ref ++ [.ref p])) p = some (tupOf t) := by
  rw [upd_ne (fun z => by rw [z, hD] at hp; cases hp), upd_same]
theorem same_app {HX H : Hp} {D p : Addr} {o : HO} {l : List V} (s : Same HX H) (hX : HX D = none) (hp : H p = none) : Same HX (upd (upd H p o) D (.lst l)) := fun b u hb => by
  rw [upd_ne (ne_of_none hb hX), upd_ne (ne_of_none (s b u hb) hp)]
  exact s b u hb
theorem ok_toksOf {f : Addr} {fd : FuncData} (F : L2.Fun K "tokens_of" "tokens_of" sToksOf f fd) (T : ToksF K mg fT fB fR fP fL fD fN fK dT dB dR dP dL dD dN dK) : FnOk P w K mg base CX0 4 f fd ["t"] (spToksOf K) := by
  refine F.ok scToksOf (fun vs H Q E h => ?_) (fun cdv A outer s H vs Q E hr h => ?_)
  · obtain ⟨a, b, rfl, _⟩ := h
    rfl
  obtain ⟨a, b, rfl, hS, h5, q⟩ := h
  have hr1 : Room 1 _ := hr.mono (by decide)
  have hr2 : Room 2 _ := hr.mono (by decide)
  have okB := ok_pastBl (P := P) (w := w) (base := base) T.FB T.G.len T.FR T.bR T.mR
  have okP := ok_pastTo (P := P) (w := w) (base := base) T.FP T.G.len T.FD T.bD T.mD T.FL T.bL T.mL T.FN T.bN T.mN
  refine ⟨_, pss_cons (ps_set (i := 1) scToksOf.nd rfl (Or.inl rfl) (pe_call (ok_textOf T.FT T.X) hr1 rfl T.mT T.FT.kp T.bT .nil pass0 (pa_cons (pv 0) pa_nil)))
    (pss_cons (ps_set (i := 2) scToksOf.nd rfl (Or.inl rfl) (pe_lst pa_nil))
    (pss_cons (ps_set (i := 3) scToksOf.nd rfl (Or.inl rfl) (pe_call okB hr2 rfl T.mB T.FB.kp T.bB .nil pass0 (pa_cons (pv 1) (pa_cons pe_int pa_nil))))
    (pss_cons (ps_while PassesOwn.never (pt_cmpR op_lt (pv 3) (pe_callB call_len_str rfl T.G.len PySem.boot_len (pa_cons (pv 1) pa_nil)) (nomark _))
      (pss_cons (ps_set (i := 4) scToksOf.nd rfl (Or.inl rfl) (pe_call okP hr rfl T.mP T.FP.kp T.bP .nil pass0 (pa_cons (pv 1) (pa_cons (pv 3) pa_nil))))
      (pss_cons (ps_expr (pe_bm PySem.F.plainAttrs_list PySem.F.slot_list_append PySem.F.type_list_append mt_append (pv 2) (pa_cons (pe_tup (pa_cons
          (pe_call (ok_kindOf T.FK T.G) hr1 rfl T.mK T.FK.kp T.bK .nil pass0 (pa_cons (pe_slice sl_str (pv 1) (po_some (pv 3)) (po_some (pv 4))) pa_nil))
          (pa_cons (pe_slice sl_str (pv 1) (po_some (pv 3)) (po_some (pv 4))) (pa_cons (pv 3) pa_nil)))) pa_nil)))
      (pss_one (ps_set (i := 3) scToksOf.nd rfl (Or.inl rfl) (pe_call okB hr2 rfl T.mB T.FB.kp T.bB .nil pass0 (pa_cons (pv 1) (pa_cons (pv 4) pa_nil))))))))
    (pss_cons (ps_expr (pe_bm PySem.F.plainAttrs_list PySem.F.slot_list_append PySem.F.type_list_append mt_append (pv 2) (pa_cons (pe_tup (pa_cons
          (pe_gs rfl T.G.END) (pa_cons pe_str (pa_cons (pe_callB call_len_str rfl T.G.len PySem.boot_len (pa_cons (pv 1) pa_nil)) pa_nil)))) pa_nil)))
    (pss_one (ps_ret (pv 2))))))), ?_⟩
  obtain ⟨tb, htb⟩ : ∃ tb, tb = b.map kn := ⟨_, rfl⟩
  have hl : tb.length = b.length := by rw [htb, List.length_map]
  have h5' : tb.length ≤ 5000 := by omega
  have h128 : ∀ c ∈ tb, c.toNat < 128 := fun c hc => by
    rw [htb] at hc
    obtain ⟨d, _, e⟩ := List.mem_map.mp hc
    rw [← e]
    exact kn128 d
  refine ⟨_, rfl, a, b, rfl, hS, by omega, fun HX sX => ?_⟩
  rw [← htb]
  refine ⟨by show 0 ≤ sizeLine; decide, fun D hD => ?_⟩
  have s0 : Same HX (upd HX D (.lst [])) := same_new hD _
  refine ⟨_, rfl, tb, 0, rfl, h5', h128, Nat.zero_le _, ?_⟩
  have far0 : Far b (plc tb (skipB false (tb.drop 0))) [] := by
    refine .inl ⟨[], ?_, .nil⟩
    have e := lx_skip _ (b.map kn) 0 (Nat.le_refl _)
    rw [lx_kn] at e
    have suf : skipB false (tb.drop 0) <:+ tb := skip_suf _ _
    have e2 : tb.drop (plc tb (skipB false (tb.drop 0))) = skipB false (tb.drop 0) := plc_drop suf
    rw [htb] at e2
    rw [htb, e2, List.drop_zero, e]
    unfold plc
    rw [List.nil_append, Nat.zero_add]
  refine ⟨fun m σ H' => ∃ (j : Nat) (as : List Addr) (pts : List PT) (o : Option V), σ = [some (.ref a), some (.str (tx tb)), some (.ref D), some (.int j), o] ∧ Same HX H' ∧ H' D = some (.lst (as.map V.ref)) ∧ Paired (fun a t => H' a = some (tupOf t)) as pts ∧
    Far b j pts ∧ skipB false (tb.drop j) = tb.drop j ∧ j ≤ tb.length ∧ pts.length ≤ j ∧ m = tb.length - j, ⟨_, plc tb (skipB false (tb.drop 0)), [], [], none, rfl, s0, upd_same, .nil, far0, ?_, plc_le _ _, Nat.zero_le _, rfl⟩, ?_⟩
  · rw [plc_drop (suf_drop (skip_suf _ _)), skipB_twice]
  rintro m σ H' ⟨j, as, pts, o, rfl, s1, hD1, hp1, far, hsk, hj, hpl, rfl⟩
  have lenA : as.length = pts.length := Paired.length hp1
  refine ⟨_, rfl, _, rfl, _, rfl, txt_line h5', _, _, rfl, rfl, _, rfl, ?_⟩
  rw [tx_len]
  refine ite2 (fun c => ?_) (fun c => ?_)
  · have c' : j < tb.length := by have := of_decide_eq_true c; omega
    obtain ⟨x, hx, mx⟩ := get_of c'
    have ed := drop_cons hx
    have hh : ¬ (x = 32 ∨ x = 10) ∧ x ≠ 35 := skipB_head (b := false) (l := tb.drop j) (by rw [hsk]; exact ed)
    obtain ⟨k1, k2, _⟩ := tok_at (p := j) (r := tb.drop (j + 1)) hh.1 hh.2
    have hlen : j + tokLen (tb.drop j) ≤ tb.length := by
      rw [← ed, List.length_drop] at k2
      omega
    have pa := part_at (r := tb.drop (j + 1)) (h128 x mx)
    rw [← ed] at pa k1
    obtain ⟨e, he⟩ : ∃ e, e = j + tokLen (tb.drop j) := ⟨_, rfl⟩
    have ecut : cutS (tx tb) (some (j : Int)) (some (e : Int)) = tx ((tb.drop j).take (tokLen (tb.drop j))) := by
      rw [cut_nat (by omega)]
      congr 2
      omega
    refine ⟨_, fun _ _ h => h, _, rfl, _, rfl, tb, j, rfl, h5', h128, c', ?_⟩
    rw [← he]
    refine ⟨_, rfl, .inl ⟨rfl, _, SqL.of hD1⟩, _, rfl, _, rfl, _, rfl, _, rfl, _, rfl, _, rfl, txt_line h5', (tb.drop j).take (tokLen (tb.drop j)), kindL (tb.drop j), congrArg (fun z => [V.str z]) ecut, by rw [List.length_take, List.length_drop]; omega, pa, fun H1 s2 => ?_⟩
    refine ⟨_, rfl, _, rfl, _, rfl, _, rfl, _, rfl, _, rfl, txt_line h5', _, rfl, by show 3 ≤ sizeLine; decide, fun p hp => ?_⟩
    rw [ecut]
    have hD2 := s2 _ _ hD1
    have npD : D ≠ p := fun z => by
      rw [← z, hD2] at hp
      cases hp
    have hD3 : (upd H1 p (.tup [.str (tx (kindL (tb.drop j))), .str (tx ((tb.drop j).take (tokLen (tb.drop j)))), .int (j : Int)])) D = some (.lst (as.map V.ref)) := by
      rw [upd_ne npD]
      exact hD2
    refine ⟨D, _, _, rfl, rfl, hD3, by rw [List.length_map, lenA, sizeLine_eq]; omega, ?_⟩
    refine ⟨_, rfl, _, rfl, tb, e, rfl, h5', h128, by omega, ?_⟩
    have suf : skipB false (tb.drop e) <:+ tb := suf_drop (skip_suf _ _)
    have hle : e ≤ plc tb (skipB false (tb.drop e)) := by
      have z := (skip_suf false (tb.drop e)).length_le
      rw [List.length_drop] at z
      unfold plc
      omega
    have pdr : tb.drop (plc tb (skipB false (tb.drop e))) = skipB false (tb.drop e) := plc_drop suf
    refine ⟨_, ?_, plc tb (skipB false (tb.drop e)), as ++ [p], pts ++ [(kindL (tb.drop j), (tb.drop j).take (tokLen (tb.drop j)), j)], _, rfl, same_app (s1.trans s2) hD hp, ?_, ?_, ?_, ?_, plc_le _ _, ?_, rfl⟩
    · omega
    · rw [upd_same, List.map_append]
      rfl
    · refine paired_snoc (tokL_app (t' := (kindL (tb.drop j), (tb.drop j).take (tokLen (tb.drop j)), j)) (paired_map (fun a t h => s2 _ _ h) hp1) hD2 hp) (tokL_new (t := (kindL (tb.drop j), (tb.drop j).take (tokLen (tb.drop j)), j)) hD2 hp)
    · have z := far_more (r := tb.drop (j + 1)) far (by rw [← htb]; exact ed) hh.1 hh.2 (j2 := plc tb (skipB false (tb.drop e))) (by rw [← htb, ← ed, ← he])
      rw [← ed] at z
      exact z
    · rw [pdr, skipB_twice]
    · rw [List.length_append, List.length_singleton]
      omega
  · have c' : ¬ (j : Int) < (tb.length : Int) := of_decide_eq_false (Bool.eq_false_iff.mpr c)
    have ej : j = b.length := by omega
    subst ej
    refine ⟨_, rfl, .inl ⟨rfl, _, SqL.of hD1⟩, _, rfl, _, rfl, txt_line h5', by show 3 ≤ sizeLine; decide, fun p hp => ?_⟩
    have npD : D ≠ p := fun z => by
      rw [← z, hD1] at hp
      cases hp
    refine ⟨D, _, _, rfl, rfl, (by rw [upd_ne npD]; exact hD1), by rw [List.length_map, lenA, sizeLine_eq]; omega, ?_⟩
    refine ⟨_, rfl, ?_⟩
    have el : (tx tb).length = b.length := by rw [tx_len, hl]
    have et : (.tup [.str (tx sEnd), .str (Str.ofString ""), .int ((tx tb).length : Int)] : HO) = tupOf (sEnd, [], b.length) := by
      rw [el]
      rfl
    rw [et]
    refine q _ D (pts ++ [(sEnd, [], b.length)]) (sX.trans (same_app s1 hD hp)) ?_ ⟨as ++ [p], ?_, paired_snoc (tokL_app hp1 hD1 hp) (tokL_new hD1 hp)⟩ ?_ (far_end far)
    · exact sX.free hD
    · rw [upd_same, List.map_append]
      rfl
    · rw [List.length_append, List.length_singleton]
      omega
end
end SDP
set_option Elab.async false
/-! # One token: what the program takes, what the words take -/
namespace SD
open SeamNum SeamPoly SeamPattern SeamText
def kindT : Tok → Bytes
  | .name b => if isWord b = true then b else sName
  | .num _ _ => sNumber
  | .sign c => [c]
theorem TokR.kind {k x : Bytes} : ∀ {tok : Tok}, TokR k x tok → k = kindT tok
  | .name _, h => h.2.1
  | .num _ _, h => h.1
  | .sign _, h => h.2.1
theorem not_word_bad : isWord sBad = false := by decide +kernel
theorem not_word_end : isWord sEnd = false := by decide +kernel
theorem not_word_name : isWord sName = false := by decide +kernel
theorem not_word_number : isWord sNumber = false := by decide +kernel
theorem kindT_ne {tok : Tok} {w : Bytes} (h1 : isWord w = false) (h2 : w ≠ sName) (h3 : w ≠ sNumber) (h4 : w.length ≠ 1) : kindT tok ≠ w := by
  cases tok with
  | name b =>
    show (if isWord b = true then b else sName) ≠ w
    by_cases e : isWord b = true
    · rw [if_pos e]
      intro z
      rw [z, h1] at e
      cases e
    · rw [if_neg e]
      exact fun z => h2 z.symm
  | num n k => exact fun z => h3 z.symm
  | sign c =>
    intro z
    have q : [c] = w := z
    rw [← q] at h4
    exact h4 rfl
theorem kindT_bad {tok : Tok} : kindT tok ≠ sBad := kindT_ne not_word_bad (by decide +kernel) (by decide +kernel) (by decide +kernel)
theorem kindT_end {tok : Tok} : kindT tok ≠ sEnd := kindT_ne not_word_end (by decide +kernel) (by decide +kernel) (by decide +kernel)
/-- what the program tells of a token that can't stand -/
def errT (a : PT) : Nat × Nat := (if a.1 = sBad then 1 else 2, a.2.2)
variable {bad : Option Nat} {len : Nat} {a : PT} {l : List PT} {t : Toks}
theorem Rest.head {pt : List PT} (h : Rest bad len pt t) : ∃ a l, pt = a :: l := by
  cases h
  · exact ⟨_, _, rfl⟩
  · exact ⟨_, _, rfl⟩
  · exact ⟨_, _, rfl⟩
theorem Rest.split (h : Rest bad len (a :: l) t) : (t = [] ∧ (a.1 = sEnd ∨ a.1 = sBad)) ∨ ∃ q t', t = q :: t' ∧ PTok a q ∧ Rest bad len l t' := by
  cases h with
  | done e => exact .inl ⟨rfl, .inl rfl⟩
  | stop e => exact .inl ⟨rfl, .inr rfl⟩
  | cons p r => exact .inr ⟨_, _, rfl, p, r⟩
theorem Rest.kind (h : Rest bad len (a :: l) t) : (t = [] ∧ (a.1 = sEnd ∨ a.1 = sBad)) ∨ ∃ tok t', t = (a.2.2, tok) :: t' ∧ a.1 = kindT tok ∧ TokR a.1 a.2.1 tok ∧ Rest bad len l t' := by
  rcases h.split with h | ⟨⟨p, tok⟩, t', e, ⟨e2, e3⟩, r⟩
  · exact .inl h
  · have e2' : a.2.2 = p := e2
    exact .inr ⟨tok, t', by rw [e, e2'], e3.kind, e3, r⟩
theorem Rest.err (h : Rest bad len (a :: l) t) : errT a = errOf bad len (t.head?.map fun (x : Nat × Tok) => x.1) := by
  cases h with
  | done e =>
    rw [e]
    show (if sEnd = sBad then 1 else 2, len) = (2, len)
    rw [if_neg (by decide +kernel)]
  | stop e =>
    rw [e]
    show (if sBad = sBad then 1 else 2, _) = _
    rw [if_pos rfl]
    rfl
  | cons p r =>
    rename_i q t'
    show (if a.1 = sBad then 1 else 2, a.2.2) = (2, q.1)
    rw [if_neg (by rw [p.2.kind]; exact kindT_bad), p.1]
/-- one token is taken: the program's test, the words' answer -/
def One {α : Type} (bad : Option Nat) (len : Nat) (a : PT) (l : List PT) (good : Prop) (r : Got α) (v : α) : Prop :=
  (good ∧ ∃ t', r = .ok (v, t') ∧ Rest bad len l t') ∨ (¬ good ∧ ∃ o, r = .error o ∧ errT a = errOf bad len o)
theorem Rest.wrong {α : Type} (h : Rest bad len (a :: l) t) : ∃ o, (SeamText.wrong t : Got α) = .error o ∧ errT a = errOf bad len o := ⟨_, rfl, h.err⟩
theorem sign_one {c : UInt8} {b : Bytes} (h : isWord b = true) : b ≠ [c] ∨ c = 120 ∨ c = 121 := by
  have all : ∀ x ∈ WORDSB, x.length ≠ 1 ∨ x = [120] ∨ x = [121] := by decide +kernel
  by_cases e : b = [c]
  · subst e
    have m : [c] ∈ WORDSB := by
      unfold isWord at h
      simp only [Bool.or_eq_true] at h
      unfold WORDSB
      rcases h with h | h | h
      · rw [List.contains_iff_mem] at h
        simp only [List.mem_cons, List.not_mem_nil, or_false] at h
        rcases h with h | h | h | h | h <;> (have q := congrArg List.length h; rw [List.length_singleton] at q; exact absurd q (by decide +kernel))
      · rw [ofSums_some, List.contains_iff_mem] at h
        simp only [List.mem_cons, List.not_mem_nil, or_false] at h
        rcases h with h | h | h | h <;> rw [h] <;> decide +kernel
      · unfold ofPlaces fnOf at h
        rw [List.isSome_find?, List.any_eq_true] at h
        obtain ⟨f, hf, q⟩ := h
        rw [Bool.and_eq_true] at q
        have q2 : wordOf f = [c] := by simpa using q.2
        have hf' : f < 11 := List.mem_range.mp hf
        have q1 : 5 ≤ f := of_decide_eq_true q.1
        have all : ∀ g : Fin 11, 5 ≤ g.val → (wordOf g.val).length ≠ 1 := by decide +kernel
        exact absurd (congrArg List.length q2) (all ⟨f, hf'⟩ q1)
    rcases all _ m with q | q | q
    · exact absurd rfl q
    · exact .inr (.inl (by injection q))
    · exact .inr (.inr (by injection q))
  · exact .inl e
/-- a sign's kind is no name's and no number's -/
theorem sign_kind {c : UInt8} (hc : signs.contains c = true) {tok : Tok} (h : kindT tok = [c]) : tok = .sign c := by
  cases tok with
  | name b =>
    have h' : (if isWord b = true then b else sName) = [c] := h
    by_cases e : isWord b = true
    · rw [if_pos e] at h'
      rcases sign_one (c := c) e with q | q | q
      · exact absurd h' q
      · subst q
        exact absurd hc (by decide +kernel)
      · subst q
        exact absurd hc (by decide +kernel)
    · rw [if_neg e] at h'
      exact absurd (congrArg List.length h') (by rw [List.length_singleton]; decide +kernel)
  | num n k =>
    have h' : sNumber = [c] := h
    exact absurd (congrArg List.length h') (by rw [List.length_singleton]; decide +kernel)
  | sign d =>
    have h' : [d] = [c] := h
    injection h' with h'
    rw [h']
theorem rest_sign {c : UInt8} (hc : signs.contains c = true) (h : Rest bad len (a :: l) t) : One bad len a l (a.1 = [c]) (SeamText.sign c t) () := by
  rcases h.kind with ⟨e, k⟩ | ⟨tok, t', e, k, tr, r⟩
  · refine .inr ⟨fun z => ?_, ?_⟩
    · rw [z] at k
      rcases k with k | k
      · exact absurd (congrArg List.length k) (by rw [List.length_singleton]; decide +kernel)
      · exact absurd (congrArg List.length k) (by rw [List.length_singleton]; decide +kernel)
    · have w := h.wrong (α := Unit)
      rw [e] at w ⊢
      exact w
  · by_cases z : a.1 = [c]
    · rw [z] at k
      have et := sign_kind hc k.symm
      subst et
      refine .inl ⟨z, t', ?_, r⟩
      rw [e]
      show (if c = c then Except.ok ((), t') else SeamText.wrong _) = _
      rw [if_pos rfl]
    · refine .inr ⟨z, ?_⟩
      have w := h.wrong (α := Unit)
      rw [e] at w ⊢
      unfold SeamText.sign
      split
      · rename_i p d r' he
        injection he with he1 he2
        injection he1 with he1 he3
        rw [if_neg (fun y => z (by rw [k, he3, y]; rfl))]
        exact w
      · exact w
theorem name_kind {tok : Tok} (h : kindT tok = sName) : ∃ b, tok = .name b ∧ isWord b = false := by
  cases tok with
  | name b =>
    have h' : (if isWord b = true then b else sName) = sName := h
    by_cases e : isWord b = true
    · rw [if_pos e] at h'
      rw [h', not_word_name] at e
      cases e
    · exact ⟨b, rfl, by simpa using e⟩
  | num n k => exact absurd h (by show sNumber ≠ sName; decide +kernel)
  | sign c =>
    have h' : [c] = sName := h
    exact absurd (congrArg List.length h') (by rw [List.length_singleton]; decide +kernel)
theorem rest_name (h : Rest bad len (a :: l) t) : One bad len a l (a.1 = sName) (ownName t) a.2.1 := by
  rcases h.kind with ⟨e, k⟩ | ⟨tok, t', e, k, tr, r⟩
  · refine .inr ⟨fun z => ?_, ?_⟩
    · rw [z] at k
      rcases k with k | k <;> exact absurd k (by decide +kernel)
    · have w := h.wrong (α := Bytes)
      rw [e] at w ⊢
      exact w
  · by_cases z : a.1 = sName
    · rw [z] at k
      obtain ⟨b, et, hb⟩ := name_kind k.symm
      subst et
      refine .inl ⟨z, t', ?_, r⟩
      rw [e, tr.1]
      show (if isWord b = true then SeamText.wrong _ else Except.ok (b, t')) = _
      rw [if_neg (by rw [hb]; exact Bool.false_ne_true)]
    · refine .inr ⟨z, ?_⟩
      have w := h.wrong (α := Bytes)
      rw [e] at w ⊢
      unfold ownName
      split
      · rename_i p b r' he
        injection he with he1 he2
        injection he1 with he1 he3
        rw [if_pos]
        · exact w
        · by_cases y : isWord b = true
          · exact y
          · exact absurd (by rw [k, he3]; exact if_neg y) z
      · exact w
theorem word_kind {w k x : Bytes} (hw : isWord w = true) {tok : Tok} (T : TokR k x tok) (h : kindT tok = w) : tok = .name w := by
  cases tok with
  | name b =>
    have h' : (if isWord b = true then b else sName) = w := h
    by_cases e : isWord b = true
    · rw [if_pos e] at h'
      rw [h']
    · rw [if_neg e] at h'
      rw [← h', not_word_name] at hw
      cases hw
  | num n k =>
    have h' : sNumber = w := h
    rw [← h', not_word_number] at hw
    cases hw
  | sign c =>
    have h' : [c] = w := h
    have hc := T.2.2
    rcases sign_one (c := c) hw with q | q | q
    · exact absurd h'.symm q
    · subst q
      exact absurd hc (by decide +kernel)
    · subst q
      exact absurd hc (by decide +kernel)
theorem rest_word {w : Bytes} (hw : isWord w = true) (h : Rest bad len (a :: l) t) : One bad len a l (a.1 = w) (SeamText.word w t) () := by
  rcases h.kind with ⟨e, k⟩ | ⟨tok, t', e, k, tr, r⟩
  · refine .inr ⟨fun z => ?_, ?_⟩
    · rw [z] at k
      rcases k with k | k
      · rw [k, not_word_end] at hw
        cases hw
      · rw [k, not_word_bad] at hw
        cases hw
    · have w := h.wrong (α := Unit)
      rw [e] at w ⊢
      exact w
  · by_cases z : a.1 = w
    · have et := word_kind hw tr (k.symm.trans z)
      subst et
      refine .inl ⟨z, t', ?_, r⟩
      rw [e]
      show (if w = w then Except.ok ((), t') else SeamText.wrong _) = _
      rw [if_pos rfl]
    · refine .inr ⟨z, ?_⟩
      have q := h.wrong (α := Unit)
      rw [e] at q ⊢
      unfold SeamText.word
      split
      · rename_i p b r' he
        injection he with he1 he2
        injection he1 with he1 he3
        rw [if_neg]
        · exact q
        · intro y
          refine z ?_
          rw [k, he3, y]
          exact if_pos hw
      · exact q
/-- so many names -/
def takeN : Nat → Toks → Got (List Bytes)
  | 0, t => .ok ([], t)
  | n + 1, t => next (ownName t) fun b => next (takeN n b.2) fun l => .ok (b.1 :: l.1, l.2)
theorem one_line (h : Rest bad len (a :: l) t) (hk : a.1 = sName ∨ a.1 = sNumber ∨ isWord a.1 = true ∨ a.1.length = 1) : a.2.1.length ≤ 37 := by
  rcases h.kind with ⟨e, k⟩ | ⟨tok, t', e, k, tr, r⟩
  · rcases k with k | k <;> rw [k] at hk
    · exact absurd hk (by decide +kernel)
    · exact absurd hk (by decide +kernel)
  · cases tok with
    | name b => exact tr.2.2
    | num n j => exact tr.2.1
    | sign c =>
      rw [tr.1]
      show 1 ≤ 37
      decide
end SD
set_option Elab.async false
/-! # Steps of sums and places; what the next token decides -/
namespace SD
open SeamNum SeamPoly SeamPattern SeamText
def whatOf (f : Nat) : Bytes := if f = 4 then ascii "pair" else wordOf f
def sNeg : Bytes := ascii "negative"
/-- the program's steps of a sum or a place -/
def stepsOf : E → List (Bytes × Bytes)
  | .num n k => [(sNumber, pointText n k)]
  | .name b => [(sName, b)]
  | .neg a => stepsOf a ++ [(sNeg, [])]
  | .op c a b => stepsOf a ++ stepsOf b ++ [([c], [])]
  | .call1 f a => stepsOf a ++ [(whatOf f, [])]
  | .call2 f a b => stepsOf a ++ stepsOf b ++ [(whatOf f, [])]
  | .call3 f a b c => stepsOf a ++ stepsOf b ++ stepsOf c ++ [(whatOf f, [])]
  | .call4 f a b c d => stepsOf a ++ stepsOf b ++ stepsOf c ++ stepsOf d ++ [(whatOf f, [])]
theorem steps_called {f : Nat} {l : List E} (h1 : l ≠ []) (h2 : l.length ≤ 4) : stepsOf (called f l) = l.flatMap stepsOf ++ [(whatOf f, [])] := by
  match l, h1, h2 with
  | [a], _, _ => simp [called, stepsOf]
  | [a, b], _, _ => simp [called, stepsOf]
  | [a, b, c], _, _ => simp [called, stepsOf]
  | [a, b, c, d], _, _ => simp [called, stepsOf]
  | _ :: _ :: _ :: _ :: _ :: _, _, h => simp only [List.length_cons] at h; omega
variable {bad : Option Nat} {len : Nat} {a : PT} {l : List PT} {t : Toks} {d : Nat}
theorem fac_name (h : Rest bad len (a :: l) t) (k : a.1 = sName) : ∃ t', rd d .factor t = .ok (.name a.2.1, t') ∧ Rest bad len l t' := by
  rcases h.kind with ⟨e, z⟩ | ⟨tok, t', e, z, tr, r⟩
  · rw [k] at z
    rcases z with z | z <;> exact absurd z (by decide +kernel)
  · rw [k] at z
    obtain ⟨b, et, hb⟩ := name_kind z.symm
    subst et
    rw [e, tr.1]
    exact ⟨t', rd_name d _ b t' hb, r⟩
theorem pl_name (h : Rest bad len (a :: l) t) (k : a.1 = sName) : ∃ t', rd d .place t = .ok (.name a.2.1, t') ∧ Rest bad len l t' := by
  rcases h.kind with ⟨e, z⟩ | ⟨tok, t', e, z, tr, r⟩
  · rw [k] at z
    rcases z with z | z <;> exact absurd z (by decide +kernel)
  · rw [k] at z
    obtain ⟨b, et, hb⟩ := name_kind z.symm
    subst et
    rw [e, tr.1]
    exact ⟨t', rd_pname d _ b t' hb, r⟩
theorem num_kind {tok : Tok} (h : kindT tok = sNumber) : ∃ n k, tok = .num n k := by
  cases tok with
  | name b =>
    have h' : (if isWord b = true then b else sName) = sNumber := h
    by_cases e : isWord b = true
    · rw [if_pos e] at h'
      rw [h', not_word_number] at e
      cases e
    · rw [if_neg e] at h'
      exact absurd h' (by decide +kernel)
  | num n k => exact ⟨n, k, rfl⟩
  | sign c =>
    have h' : [c] = sNumber := h
    have q := congrArg List.length h'
    rw [List.length_singleton] at q
    exact absurd q (by decide +kernel)
theorem fac_num (h : Rest bad len (a :: l) t) (k : a.1 = sNumber) : ∃ n j t' x y, rd d .factor t = .ok (.num n j, t') ∧ Rest bad len l t' ∧ NumText a.2.1 x y ∧ pointText n j = plain x y := by
  rcases h.kind with ⟨e, z⟩ | ⟨tok, t', e, z, tr, r⟩
  · rw [k] at z
    rcases z with z | z <;> exact absurd z (by decide +kernel)
  · rw [k] at z
    obtain ⟨n, j, et⟩ := num_kind z.symm
    subst et
    obtain ⟨_, _, x, y, q1, q2⟩ := tr
    rw [e]
    exact ⟨n, j, t', x, y, rd_num d _ n j t', r, q1, q2⟩
/-- the words' reading stops at this token -/
def Bad1 {α : Type} (bad : Option Nat) (len : Nat) (a : PT) (r : Got α) : Prop := ∃ o, r = .error o ∧ errT a = errOf bad len o
theorem sums_word {b : Bytes} {g : Nat} (h : ofSums b = some g) : isWord b = true ∧ g < 4 ∧ wordOf g = b := by
  refine ⟨by unfold isWord; rw [h]; simp, ?_⟩
  unfold ofSums fnOf at h
  have q := List.find?_some h
  have m := List.mem_of_find?_eq_some h
  rw [Bool.and_eq_true] at q
  exact ⟨List.mem_range.mp m, by simpa using q.2⟩
theorem places_word {b : Bytes} {g : Nat} (h : ofPlaces b = some g) : isWord b = true ∧ 5 ≤ g ∧ g < 11 ∧ wordOf g = b := by
  refine ⟨by unfold isWord; rw [h]; simp, ?_⟩
  unfold ofPlaces fnOf at h
  have q := List.find?_some h
  have m := List.mem_of_find?_eq_some h
  rw [Bool.and_eq_true] at q
  exact ⟨of_decide_eq_true q.1, List.mem_range.mp m, by simpa using q.2⟩
theorem fac_deep (h : Rest bad len (a :: l) t) (k1 : a.1 ≠ sName) (k2 : a.1 ≠ sNumber) (hd : DEEP ≤ d) : Bad1 bad len a (rd d .factor t) := by
  rcases h.kind with ⟨e, z⟩ | ⟨tok, t', e, z, tr, r⟩
  · have w := h.wrong (α := E)
    rw [e] at w ⊢
    exact w
  · have w := h.wrong (α := E)
    rw [e] at w ⊢
    cases tok with
    | num n j => exact absurd z k2
    | name b =>
      have hw : isWord b = true := by
        by_cases y : isWord b = true
        · exact y
        · exact absurd (z.trans (if_neg y)) k1
      cases q : ofSums b with
      | none =>
        rw [rd_word d _ b t' hw q]
        exact w
      | some g =>
        rw [rd_fn d _ b t' g q, if_pos hd]
        exact w
    | sign c =>
      by_cases c1 : c = 45
      · subst c1
        rw [rd_neg, if_pos hd]
        exact w
      · by_cases c2 : c = 40
        · subst c2
          rw [rd_paren, if_pos hd]
          exact w
        · rw [rd_other d _ c t' c1 c2]
          exact w
theorem pl_deep (h : Rest bad len (a :: l) t) (k1 : a.1 ≠ sName) (hd : DEEP ≤ d) : Bad1 bad len a (rd d .place t) := by
  rcases h.kind with ⟨e, z⟩ | ⟨tok, t', e, z, tr, r⟩
  · have w := h.wrong (α := E)
    rw [e] at w ⊢
    exact w
  · have w := h.wrong (α := E)
    rw [e] at w ⊢
    cases tok with
    | num n j => exact w
    | name b =>
      have hw : isWord b = true := by
        by_cases y : isWord b = true
        · exact y
        · exact absurd (z.trans (if_neg y)) k1
      cases q : ofPlaces b with
      | none =>
        rw [rd_pword d _ b t' hw q]
        exact w
      | some g =>
        rw [rd_pfn d _ b t' g q, if_pos hd]
        exact w
    | sign c =>
      by_cases c2 : c = 40
      · subst c2
        rw [rd_pdeep d _ t' hd]
        exact w
      · rw [rd_pother d _ c t' c2]
        exact w
theorem rest_tok {c : UInt8} (hc : signs.contains c = true) (h : Rest bad len (a :: l) t) (k : a.1 = [c]) : ∃ p t', t = (p, .sign c) :: t' ∧ Rest bad len l t' := by
  rcases h.kind with ⟨e, z⟩ | ⟨tok, t', e, z, tr, r⟩
  · rw [k] at z
    rcases z with z | z <;> (have q := congrArg List.length z; rw [List.length_singleton] at q; exact absurd q (by decide +kernel))
  · have q := sign_kind hc (z.symm.trans k)
    subst q
    exact ⟨_, t', e, r⟩
theorem fac_neg (h : Rest bad len (a :: l) t) (k : a.1 = [45]) (hd : d < DEEP) : ∃ t', Rest bad len l t' ∧ rd d .factor t = next (rd (d + 1) .factor t') fun x => .ok (.neg x.1, x.2) := by
  obtain ⟨p, t', e, r⟩ := rest_tok (by decide +kernel) h k
  refine ⟨t', r, ?_⟩
  rw [e, rd_neg, if_neg (by omega)]
theorem fac_paren (h : Rest bad len (a :: l) t) (k : a.1 = [40]) (hd : d < DEEP) : ∃ t', Rest bad len l t' ∧ rd d .factor t = next (rd (d + 1) .sum t') fun x => next (SeamText.sign 41 x.2) fun y => .ok (x.1, y.2) := by
  obtain ⟨p, t', e, r⟩ := rest_tok (by decide +kernel) h k
  refine ⟨t', r, ?_⟩
  rw [e, rd_paren, if_neg (by omega)]
/-- the parentheses of a pair or a word -/
def prt (d g : Nat) (t : Toks) : Got E := next (SeamText.sign 40 t) fun x => rd (d + 1) (.parts g [] (takesOf g)) x.2
theorem rest_wtok {w : Bytes} (hw : isWord w = true) (h : Rest bad len (a :: l) t) (k : a.1 = w) : ∃ p t', t = (p, .name w) :: t' ∧ Rest bad len l t' := by
  rcases h.kind with ⟨e, z⟩ | ⟨tok, t', e, z, tr, r⟩
  · rw [k] at z
    rcases z with z | z
    · rw [z, not_word_end] at hw
      cases hw
    · rw [z, not_word_bad] at hw
      cases hw
  · have q := word_kind hw tr (z.symm.trans k)
    subst q
    exact ⟨_, t', e, r⟩
theorem sums_of : ∀ g : Fin 4, ofSums (wordOf g.val) = some g.val := by decide +kernel
theorem places_of : ∀ g : Fin 11, 5 ≤ g.val → ofPlaces (wordOf g.val) = some g.val := by decide +kernel
theorem fac_fn {g : Nat} (hg : g < 4) (h : Rest bad len (a :: l) t) (k : a.1 = wordOf g) (hd : d < DEEP) : ∃ t', Rest bad len l t' ∧ rd d .factor t = prt d g t' := by
  have q : ofSums (wordOf g) = some g := sums_of ⟨g, hg⟩
  obtain ⟨p, t', e, r⟩ := rest_wtok (sums_word q).1 h k
  refine ⟨t', r, ?_⟩
  rw [e, rd_fn d p _ t' g q, if_neg (by omega)]
  rfl
theorem pl_fn {g : Nat} (h5 : 5 ≤ g) (hg : g < 11) (h : Rest bad len (a :: l) t) (k : a.1 = wordOf g) (hd : d < DEEP) : ∃ t', Rest bad len l t' ∧ rd d .place t = prt d g t' := by
  have q : ofPlaces (wordOf g) = some g := places_of ⟨g, hg⟩ h5
  obtain ⟨p, t', e, r⟩ := rest_wtok (places_word q).1 h k
  refine ⟨t', r, ?_⟩
  rw [e, rd_pfn d p _ t' g q, if_neg (by omega)]
  rfl
theorem pl_pair (h : Rest bad len (a :: l) t) (k : a.1 = [40]) (hd : d < DEEP) : rd d .place t = prt d 4 t := by
  obtain ⟨p, t', e, r⟩ := rest_tok (by decide +kernel) h k
  rw [e, rd_pair d p t' hd]
  rfl
def SUMB : List Bytes := [ascii "x", ascii "y", ascii "min", ascii "max"]
def PLACEB : List Bytes := [ascii "between", ascii "meet", ascii "foot", ascii "mirror", ascii "turn", ascii "shift"]
theorem sum_mem {b : Bytes} (h : SUMB.contains b = true) : ∃ g, g < 4 ∧ b = wordOf g := by
  rw [List.contains_iff_mem] at h
  simp only [SUMB, List.mem_cons, List.not_mem_nil, or_false] at h
  rcases h with h | h | h | h
  · exact ⟨0, by decide, h⟩
  · exact ⟨1, by decide, h⟩
  · exact ⟨2, by decide, h⟩
  · exact ⟨3, by decide, h⟩
theorem place_mem {b : Bytes} (h : PLACEB.contains b = true) : ∃ g, 5 ≤ g ∧ g < 11 ∧ b = wordOf g := by
  rw [List.contains_iff_mem] at h
  simp only [PLACEB, List.mem_cons, List.not_mem_nil, or_false] at h
  rcases h with h | h | h | h | h | h
  · exact ⟨5, by decide, by decide, h⟩
  · exact ⟨6, by decide, by decide, h⟩
  · exact ⟨7, by decide, by decide, h⟩
  · exact ⟨8, by decide, by decide, h⟩
  · exact ⟨9, by decide, by decide, h⟩
  · exact ⟨10, by decide, by decide, h⟩
theorem mem_sum : ∀ g : Fin 4, SUMB.contains (wordOf g.val) = true := by decide +kernel
theorem mem_place : ∀ g : Fin 11, 5 ≤ g.val → PLACEB.contains (wordOf g.val) = true := by decide +kernel
theorem fac_other (h : Rest bad len (a :: l) t) (k1 : a.1 ≠ sName) (k2 : a.1 ≠ sNumber) (k3 : a.1 ≠ [45]) (k4 : a.1 ≠ [40]) (k5 : SUMB.contains a.1 = false) : Bad1 bad len a (rd d .factor t) := by
  rcases h.kind with ⟨e, z⟩ | ⟨tok, t', e, z, tr, r⟩
  · have w := h.wrong (α := E)
    rw [e] at w ⊢
    exact w
  · have w := h.wrong (α := E)
    rw [e] at w ⊢
    cases tok with
    | num n j => exact absurd z k2
    | name b =>
      have hw : isWord b = true := by
        by_cases y : isWord b = true
        · exact y
        · exact absurd (z.trans (if_neg y)) k1
      have zb : a.1 = b := z.trans (if_pos hw)
      cases q : ofSums b with
      | none =>
        rw [rd_word d _ b t' hw q]
        exact w
      | some g =>
        obtain ⟨_, g4, e4⟩ := sums_word q
        have q2 := mem_sum ⟨g, g4⟩
        have q3 : SUMB.contains (wordOf g) = true := q2
        rw [e4, ← zb, k5] at q3
        cases q3
    | sign c =>
      rw [rd_other d _ c t' (fun y => k3 (by rw [z, y]; rfl)) (fun y => k4 (by rw [z, y]; rfl))]
      exact w
theorem pl_other (h : Rest bad len (a :: l) t) (k1 : a.1 ≠ sName) (k4 : a.1 ≠ [40]) (k5 : PLACEB.contains a.1 = false) : Bad1 bad len a (rd d .place t) := by
  rcases h.kind with ⟨e, z⟩ | ⟨tok, t', e, z, tr, r⟩
  · have w := h.wrong (α := E)
    rw [e] at w ⊢
    exact w
  · have w := h.wrong (α := E)
    rw [e] at w ⊢
    cases tok with
    | num n j => exact w
    | name b =>
      have hw : isWord b = true := by
        by_cases y : isWord b = true
        · exact y
        · exact absurd (z.trans (if_neg y)) k1
      have zb : a.1 = b := z.trans (if_pos hw)
      cases q : ofPlaces b with
      | none =>
        rw [rd_pword d _ b t' hw q]
        exact w
      | some g =>
        obtain ⟨_, g5, g4, e4⟩ := places_word q
        have q3 : PLACEB.contains (wordOf g) = true := mem_place ⟨g, g4⟩ g5
        rw [e4, ← zb, k5] at q3
        cases q3
    | sign c =>
      rw [rd_pother d _ c t' (fun y => k4 (by rw [z, y]; rfl))]
      exact w
/-- the loop of a sum, of a product: more of it, or no such sign -/
theorem more_go {c : UInt8} (hc : c = 43 ∨ c = 45) (h : Rest bad len (a :: l) t) (k : a.1 = [c]) (e : E) : ∃ t', Rest bad len l t' ∧ rd d (.sumMore e) t = next (rd d .product t') fun b => rd d (.sumMore (.op c e b.1)) b.2 := by
  obtain ⟨p, t', e2, r⟩ := rest_tok (c := c) (by rcases hc with q | q <;> rw [q] <;> decide +kernel) h k
  refine ⟨t', r, ?_⟩
  rw [e2, rd_sumMore_go d e p c t' hc]
theorem pmore_go {c : UInt8} (hc : c = 42 ∨ c = 47) (h : Rest bad len (a :: l) t) (k : a.1 = [c]) (e : E) : ∃ t', Rest bad len l t' ∧ rd d (.productMore e) t = next (rd d .factor t') fun b => rd d (.productMore (.op c e b.1)) b.2 := by
  obtain ⟨p, t', e2, r⟩ := rest_tok (c := c) (by rcases hc with q | q <;> rw [q] <;> decide +kernel) h k
  refine ⟨t', r, ?_⟩
  rw [e2, rd_productMore_go d e p c t' hc]
theorem no_sign {L : List UInt8} (h : Rest bad len (a :: l) t) (k : ∀ c ∈ L, a.1 ≠ [c]) : noSign L t := by
  intro p c r e hc
  rcases h.kind with ⟨e1, z⟩ | ⟨tok, t', e1, z, tr, r⟩
  · rw [e1] at e
    cases e
  · rw [e1] at e
    injection e with e2 e3
    injection e2 with e4 e5
    subst e5
    exact k c hc z
theorem more_stop (h : Rest bad len (a :: l) t) (k : ∀ c ∈ ([43, 45] : List UInt8), a.1 ≠ [c]) (e : E) : rd d (.sumMore e) t = .ok (e, t) := rd_sumMore_stop d e t (no_sign h k)
theorem pmore_stop (h : Rest bad len (a :: l) t) (k : ∀ c ∈ ([42, 47] : List UInt8), a.1 ≠ [c]) (e : E) : rd d (.productMore e) t = .ok (e, t) := rd_productMore_stop d e t (no_sign h k)
/-- the parts still to come, with the comma before them -/
def later (d g : Nat) (l : List E) (more : List Bool) (t : Toks) : Got E := if l = [] ∨ more = [] then rd d (.parts g l more) t else next (SeamText.sign 44 t) fun x => rd d (.parts g l more) x.2
theorem later_first (d g : Nat) (more : List Bool) (t : Toks) : later d g [] more t = rd d (.parts g [] more) t := if_pos (.inl rfl)
theorem later_end (d g : Nat) (l : List E) (t : Toks) : later d g l [] t = next (SeamText.sign 41 t) fun x => .ok (called g l, x.2) := by
  unfold later
  rw [if_pos (.inr rfl), rd_parts_nil]
theorem parts_go (d g : Nat) (l : List E) (p : Bool) (m : List Bool) (t : Toks) : rd d (.parts g l (p :: m)) t = next (rd d (if p = true then .place else .sum) t) fun a => later d g (l ++ [a.1]) m a.2 := by
  rw [rd_parts_cons]
  refine next_cg rfl fun a _ => ?_
  unfold later
  by_cases h : m = []
  · rw [if_pos h, if_pos (.inr h), h]
  · rw [if_neg h, if_neg]
    rintro (q | q)
    · exact absurd q (by simp)
    · exact h q
theorem later_go (d g : Nat) (l : List E) (p : Bool) (m : List Bool) (t : Toks) (h : l ≠ []) : later d g l (p :: m) t = next (SeamText.sign 44 t) fun x => rd d (.parts g l (p :: m)) x.2 := by
  unfold later
  rw [if_neg]
  rintro (q | q)
  · exact h q
  · cases q
end SD
set_option Elab.async false
/-! # Statements, drafts: what the next token decides -/
namespace SD
open SeamNum SeamPoly SeamPattern SeamText
variable {bad : Option Nat} {len : Nat} {a : PT} {l : List PT} {t : Toks} {d : Nat}
theorem next_next {ε α β γ : Type} (x : Except ε α) (f : α → Except ε β) (g : β → Except ε γ) : next (next x f) g = next x fun a => next (f a) g := by
  cases x <;> rfl
def wLet : Bytes := ascii "let"
def wPoint : Bytes := ascii "point"
def wPiece : Bytes := ascii "piece"
def wSeam : Bytes := ascii "seam"
theorem st_let (h : Rest bad len (a :: l) t) (k : a.1 = wLet) : ∃ t', Rest bad len l t' ∧ statement t = next (ownName t') fun n => next (SeamText.sign 61 n.2) fun x => next (rd 1 .sum x.2) fun e => next (SeamText.sign 59 e.2) fun y => .ok (.let_ n.1 e.1, y.2) := by
  obtain ⟨p, t', e, r⟩ := rest_wtok (w := wLet) (by decide +kernel) h k
  refine ⟨t', r, ?_⟩
  rw [e]
  unfold statement
  dsimp only
  rw [if_pos (show wLet = ascii "let" from rfl)]
  rfl
theorem st_point (h : Rest bad len (a :: l) t) (k : a.1 = wPoint) : ∃ t', Rest bad len l t' ∧ statement t = next (ownName t') fun n => next (SeamText.sign 61 n.2) fun x => next (rd 1 .place x.2) fun e => next (SeamText.sign 59 e.2) fun y => .ok (.point n.1 e.1, y.2) := by
  obtain ⟨p, t', e, r⟩ := rest_wtok (w := wPoint) (by decide +kernel) h k
  refine ⟨t', r, ?_⟩
  rw [e]
  unfold statement
  dsimp only
  rw [if_neg (show ¬ wPoint = ascii "let" by decide +kernel), if_pos (show wPoint = ascii "point" from rfl)]
  rfl
theorem st_piece (h : Rest bad len (a :: l) t) (k : a.1 = wPiece) : ∃ t', Rest bad len l t' ∧ statement t = next (ownName t') fun n => next (SeamText.sign 40 n.2) fun x => next (next (ownName x.2) fun c => corners 17 [c.1] c.2) fun l => next (word GRAIN l.2) fun g => next (takeN 2 g.2) fun ab =>
    next (SeamText.sign 59 ab.2) fun y => .ok (.piece n.1 l.1 (ab.1.getD 0 []) (ab.1.getD 1 []), y.2) := by
  obtain ⟨p, t', e, r⟩ := rest_wtok (w := wPiece) (by decide +kernel) h k
  refine ⟨t', r, ?_⟩
  rw [e]
  unfold statement
  dsimp only
  rw [if_neg (show ¬ wPiece = ascii "let" by decide +kernel), if_neg (show ¬ wPiece = ascii "point" by decide +kernel), if_pos (show wPiece = ascii "piece" from rfl)]
  refine next_cg rfl fun n _ => next_cg rfl fun x _ => ?_
  rw [next_next]
  refine next_cg rfl fun c _ => next_cg rfl fun l _ => next_cg rfl fun g _ => ?_
  unfold takeN takeN takeN
  rw [next_next]
  refine next_cg rfl fun u _ => ?_
  rw [next_next, next_next]
  exact next_cg rfl fun v _ => rfl
theorem st_seam (h : Rest bad len (a :: l) t) (k : a.1 = wSeam) : ∃ t', Rest bad len l t' ∧ statement t = next (takeN 3 t') fun u => next (SeamText.sign 44 u.2) fun x => next (takeN 3 x.2) fun v =>
    next (SeamText.sign 59 v.2) fun y => .ok (.seam (u.1.getD 0 []) (u.1.getD 1 []) (u.1.getD 2 []) (v.1.getD 0 []) (v.1.getD 1 []) (v.1.getD 2 []), y.2) := by
  obtain ⟨p, t', e, r⟩ := rest_wtok (w := wSeam) (by decide +kernel) h k
  refine ⟨t', r, ?_⟩
  rw [e]
  unfold statement
  dsimp only
  rw [if_neg (show ¬ wSeam = ascii "let" by decide +kernel), if_neg (show ¬ wSeam = ascii "point" by decide +kernel), if_neg (show ¬ wSeam = ascii "piece" by decide +kernel), if_pos (show wSeam = ascii "seam" from rfl)]
  unfold takeN takeN takeN takeN
  simp only [next_next]
  refine next_cg rfl fun n _ => next_cg rfl fun x _ => next_cg rfl fun n _ => next_cg rfl fun x _ => next_cg rfl fun n _ => next_cg rfl fun x _ => next_cg rfl fun n _ => rfl
theorem st_other (h : Rest bad len (a :: l) t) (k1 : a.1 ≠ wLet) (k2 : a.1 ≠ wPoint) (k3 : a.1 ≠ wPiece) (k4 : a.1 ≠ wSeam) : Bad1 bad len a (statement t) := by
  rcases h.kind with ⟨e, z⟩ | ⟨tok, t', e, z, tr, r⟩
  · have w := h.wrong (α := St)
    rw [e] at w ⊢
    exact w
  · have w := h.wrong (α := St)
    rw [e] at w ⊢
    cases tok with
    | num n j => exact w
    | sign c => exact w
    | name b =>
      have no : ∀ u : Bytes, isWord u = true → a.1 ≠ u → b ≠ u := fun u hu hk y => hk (by rw [z, y]; exact if_pos hu)
      unfold statement
      dsimp only
      rw [if_neg (show ¬ b = ascii "let" from no wLet (by decide +kernel) k1), if_neg (show ¬ b = ascii "point" from no wPoint (by decide +kernel) k2), if_neg (show ¬ b = ascii "piece" from no wPiece (by decide +kernel) k3), if_neg (show ¬ b = ascii "seam" from no wSeam (by decide +kernel) k4)]
      exact w
/-! ### corners -/
theorem sign_at (c d : UInt8) (p : Nat) (r : Toks) : SeamText.sign c ((p, .sign d) :: r) = if d = c then .ok ((), r) else wrong ((p, .sign d) :: r) := rfl
theorem corners_at (f : Nat) (cs : List Bytes) (s : UInt8) (p : Nat) (r : Toks) : corners (f + 1) cs ((p, .sign s) :: r) = if s = 41 ∧ 3 ≤ cs.length then .ok (cs, r)
  else if s = 44 ∧ cs.length < CORNERS then next (ownName r) fun (b : Bytes × Toks) => corners f (cs ++ [b.1]) b.2 else wrong ((p, .sign s) :: r) := rfl
theorem crn_go {f : Nat} {cs : List Bytes} (h : Rest bad len (a :: l) t) (c : cs.length < 3 ∨ (a.1 = [44] ∧ cs.length < 16)) : corners (f + 1) cs t = next (SeamText.sign 44 t) fun x => next (ownName x.2) fun b => corners f (cs ++ [b.1]) b.2 := by
  rcases h.kind with ⟨e, z⟩ | ⟨tok, t', e, z, tr, r⟩
  · rw [e]
    rfl
  · rw [e]
    cases tok with
    | name b => rfl
    | num n j => rfl
    | sign s =>
      rw [corners_at, sign_at]
      by_cases e44 : s = 44
      · subst e44
        rw [if_neg (by rintro ⟨q, _⟩; exact absurd q (by decide)), if_pos ⟨rfl, by show cs.length < 16; omega⟩, if_pos rfl]
        rfl
      · rw [if_neg e44]
        have h3 : cs.length < 3 := by
          rcases c with c | c
          · exact c
          · exact absurd (by have q := c.1; rw [z] at q; injection q) e44
        rw [if_neg (fun q => absurd q.2 (by omega)), if_neg (fun q => e44 q.1)]
        rfl
theorem crn_end {f : Nat} {cs : List Bytes} (h : Rest bad len (a :: l) t) (c : ¬ (cs.length < 3 ∨ (a.1 = [44] ∧ cs.length < 16))) : corners (f + 1) cs t = next (SeamText.sign 41 t) fun y => .ok (cs, y.2) := by
  rcases h.kind with ⟨e, z⟩ | ⟨tok, t', e, z, tr, r⟩
  · rw [e]
    rfl
  · rw [e]
    cases tok with
    | name b => rfl
    | num n j => rfl
    | sign s =>
      rw [corners_at, sign_at]
      by_cases e41 : s = 41
      · subst e41
        rw [if_pos ⟨rfl, by omega⟩, if_pos rfl]
        rfl
      · rw [if_neg (fun q => e41 q.1), if_neg e41, if_neg]
        · rfl
        · rintro ⟨q1, q2⟩
          exact c (.inr ⟨by rw [z, q1]; rfl, q2⟩)
/-! ### drafts -/
def whole (bad : Option Nat) (len : Nat) : Except (Option Nat) Draft → Except (Nat × Nat) Draft
  | .error o => .error (errOf bad len o)
  | .ok l => match bad with
    | some p => .error (1, p)
    | none => .ok l
theorem readDraft_is (b : Bytes) : readDraft b = whole (lx 0 b).2 b.length (statements 128 (lx 0 b).1) := by
  unfold readDraft lx
  show (match statements 128 (lex (b.length + 1) 0 b).1 with
    | .error (some p) => Except.error (2, p)
    | .error none => .error (match (lex (b.length + 1) 0 b).2 with
      | some p => (1, p)
      | none => (2, b.length))
    | .ok l => match (lex (b.length + 1) 0 b).2 with
      | some p => .error (1, p)
      | none => .ok l) = _
  generalize statements 128 (lex (b.length + 1) 0 b).1 = x
  cases x with
  | ok l => rfl
  | error o =>
    cases o with
    | none => 
      show Except.error _ = Except.error _
      congr 1
    | some p => rfl
/-- behind the statements ss, n may come -/
def goes (bad : Option Nat) (len : Nat) (ss : Draft) (n : Nat) (t : Toks) : Except (Nat × Nat) Draft := whole bad len (next (statements n t) fun l => .ok (ss ++ l))
theorem goes_end {ss : Draft} {n : Nat} (h : Rest bad len (a :: l) t) (k : a.1 = sEnd) : goes bad len ss n t = .ok ss := by
  cases h with
  | done e =>
    rw [e]
    unfold goes
    cases n <;> (unfold statements; show Except.ok (ss ++ []) = _; rw [List.append_nil])
  | stop e => exact absurd k (by show sBad ≠ sEnd; decide +kernel)
  | cons p r => exact absurd (p.2.kind.symm.trans k) kindT_end
theorem goes_full {ss : Draft} (h : Rest bad len (a :: l) t) (k : a.1 ≠ sEnd) : goes bad len ss 0 t = .error (errT a) := by
  have q := h.err
  cases h with
  | done e => exact absurd rfl k
  | stop e =>
    rw [q]
    rw [e]
    unfold goes statements
    rfl
  | cons p r =>
    rw [q]
    unfold goes statements
    rfl
theorem goes_go {ss : Draft} {n : Nat} (h : Rest bad len (a :: l) t) (k : a.1 ≠ sEnd) : goes bad len ss (n + 1) t = whole bad len (next (statement t) fun s => next (statements n s.2) fun l => .ok (ss ++ s.1 :: l)) := by
  cases h with
  | done e => exact absurd rfl k
  | stop e =>
    rw [e]
    rfl
  | cons p r =>
    unfold goes
    rw [show ∀ x t', statements (n + 1) (x :: t') = next (statement (x :: t')) fun s => next (statements n s.2) fun l => .ok (s.1 :: l) from fun x t' => rfl, next_next]
    congr 1
    refine next_cg rfl fun s _ => ?_
    rw [next_next]
    rfl
theorem goes_next {ss : Draft} {n : Nat} {t t' : Toks} {s : St} (e : statement t = next (SeamText.sign 59 t') fun y => .ok (s, y.2)) :
    whole bad len (next (statement t) fun s => next (statements n s.2) fun l => .ok (ss ++ s.1 :: l)) = whole bad len (next (SeamText.sign 59 t') fun y => next (statements n y.2) fun l => .ok ((ss ++ [s]) ++ l)) := by
  rw [e, next_next]
  congr 1
  refine next_cg rfl fun y _ => ?_
  show next (statements n y.2) _ = next (statements n y.2) _
  refine next_cg rfl fun m _ => ?_
  show Except.ok (ss ++ s :: m) = Except.ok ((ss ++ [s]) ++ m)
  rw [List.append_assoc]
  rfl
theorem whole_er {o : Option Nat} : whole bad len (.error o) = .error (errOf bad len o) := rfl
end SD
set_option Elab.async false
set_option linter.all false
set_option maxRecDepth 100000
set_option maxHeartbeats 4000000
/-! # The reader -/
namespace SDP
open PySem PySem.Spec PyProof.Rows L2 SDX SD TL
open SeamNum (Bytes)
open SeamText (Toks Got isWord signs ownName)
theorem TokL.kp {M : List Addr} {H H' : Hp} {tl : Addr} {pt : List PT} (h : TokL H tl pt) (k : Kp M H H') (hm : tl ∉ M) : TokL H' tl pt := by
  obtain ⟨as, h1, h2⟩ := h
  exact ⟨as, k _ _ h1 (.inl hm), paired_map (fun a t q => k _ _ q (.inr rfl)) h2⟩
/-- the reader at r stands at i of the tokens pt, whose list is at tl -/
structure RdAt (C : Addr) (H : Hp) (r tl : Addr) (pt : List PT) (i : Nat) : Prop where
  ins : ∃ dx, H r = some (.ins C dx [("tokens", .ref tl), ("at", .int (i : Int))])
  toks : TokL H tl pt
theorem RdAt.kp {C : Addr} {M : List Addr} {H H' : Hp} {r tl : Addr} {pt : List PT} {i : Nat} (h : RdAt C H r tl pt i) (k : Kp M H H') (h1 : r ∉ M) (h2 : tl ∉ M) : RdAt C H' r tl pt i := by
  obtain ⟨⟨dx, e⟩, t⟩ := h
  exact ⟨⟨dx, k _ _ e (.inl h1)⟩, t.kp k h2⟩
theorem RdAt.ne {C : Addr} {H : Hp} {r tl : Addr} {pt : List PT} {i : Nat} (h : RdAt C H r tl pt i) : r ≠ tl := by
  obtain ⟨⟨dx, e⟩, as, t, _⟩ := h
  intro z
  rw [z, t] at e
  cases e
structure RdAd where
  C : Addr
  fI : Addr
  dI : FuncData
  fH : Addr
  dH : FuncData
  fR : Addr
  dR : FuncData
  fT : Addr
  dT : FuncData
  fN : Addr
  dN : FuncData
  cNo : Addr
  fNo : Addr
  dNo : FuncData
  cRef : Addr
  fRef : Addr
  dRef : FuncData
  mc : Value
structure RdC (K : PySem.W.Frag) (mg : Str → Option Value) (D : RdAd) : Prop where
  g : mg "Reader" = some (.ref D.C)
  cl : L2.Cls K D.C
  nT : L2.NoAttr K D.C "tokens"
  nA : L2.NoAttr K D.C "at"
  made : L2.Mk K D.C D.fI
  I : Mt1 K D.C "__init__" "Reader.__init__" sRdI ["self", "tokens"] D.fI D.dI
  Hh : Mt1 K D.C "here" "Reader.here" sHere ["self"] D.fH D.dH
  R : Mt1 K D.C "refuse" "Reader.refuse" sRefuse ["self"] D.fR D.dR
  T : Mt1 K D.C "take" "Reader.take" sTake ["self", "kind"] D.fT D.dT
  N : Mt1 K D.C "take_names" "Reader.take_names" sTakeN ["self", "count"] D.fN D.dN
  no : ErrC K mg "NoDraft" D.cNo D.fNo
  ref : ErrC K mg "Refusal" D.cRef D.fRef
  FNo : L2.Fun K "__init__" "NoDraft.__init__" sNoI D.fNo D.dNo
  bNo : L2.Binds K D.dNo ["self", "kind", "place"] []
  FRef : L2.Fun K "__init__" "Refusal.__init__" sRefI D.fRef D.dRef
  bRef : L2.Binds K D.dRef ["self", "number", "signed"] []
  cr : ClX.CRead K D.cRef D.mc
  cv : PySem.W.findCls K (.ref D.cRef) D.mc "__init__" = some (.val (.ref D.fRef))
  mE : mg "Exception" = none
  vE : PySem.W.findCls K (.type "Exception") (.type "type") "__init__" = some (.val (.builtin "Exception.__init__"))
  BT : Gi mg "BAD_TOKEN" 1
  WT : Gi mg "WRONG_TOKEN" 2
  range : mg "range" = none
  G : TokG K mg
section
variable {P : Program} {w : World} {K : PySem.W.Frag} {mg : Str → Option Value} {base : Heap} {D : RdAd}
theorem scRdI : FnScope ["self", "tokens"] ["self", "tokens"] (defScope sRdI) := ⟨rfl, rfl, rfl, by decide +kernel, rfl, by decide +kernel, by decide +kernel⟩
theorem scHere : FnScope ["self"] ["self"] (defScope sHere) := ⟨rfl, rfl, rfl, by decide +kernel, rfl, by decide +kernel, by decide +kernel⟩
theorem scRefuse : FnScope ["self", "place"] ["self"] (defScope sRefuse) := ⟨rfl, rfl, rfl, by decide +kernel, rfl, by decide +kernel, by decide +kernel⟩
theorem scTake : FnScope ["self", "kind", "text"] ["self", "kind"] (defScope sTake) := ⟨rfl, rfl, rfl, by decide +kernel, rfl, by decide +kernel, by decide +kernel⟩
def spRdI (C : Addr) : Sp := fun vs H Q _ => ∃ (r tl dx : Addr), vs = [.ref r, .ref tl] ∧ H r = some (.ins C dx []) ∧ Q .non (upd (upd H r (.ins C dx [("tokens", .ref tl)])) r (.ins C dx [("tokens", .ref tl), ("at", .int 0)]))
theorem ok_rdI (T : RdC K mg D) : FnOk P w K mg base CX0 1 D.fI D.dI ["self", "tokens"] (spRdI D.C) := by
  refine T.I.F.ok scRdI (fun vs H Q E h => ?_) (fun cdv A outer s H vs Q E hr h => ?_)
  · obtain ⟨r, tl, dx, rfl, _⟩ := h
    rfl
  obtain ⟨r, tl, dx, rfl, e, q⟩ := h
  refine ⟨_, pss_cons (ps_fld (pv 0) (pv 1) rfl) (pss_one (ps_fld (pv 0) pe_int rfl)), ?_⟩
  refine ⟨_, rfl, _, rfl, r, D.C, dx, [], rfl, e, T.cl, T.nT, (by show 0 < 1000; decide), ?_⟩
  exact ⟨_, rfl, r, D.C, dx, [("tokens", .ref tl)], rfl, upd_same, T.cl, T.nA, (by show 1 < 1000; decide), q⟩
def spHere (C : Addr) : Sp := fun vs H Q _ => ∃ (r tl : Addr) (pt : List PT) (i : Nat) (a : PT), vs = [.ref r] ∧ RdAt C H r tl pt i ∧ pt[i]? = some a ∧ Q (.str (tx a.1)) H
theorem ok_here (T : RdC K mg D) : FnOk P w K mg base CX0 1 D.fH D.dH ["self"] (spHere D.C) := by
  refine T.Hh.F.ok scHere (fun vs H Q E h => ?_) (fun cdv A outer s H vs Q E hr h => ?_)
  · obtain ⟨r, tl, pt, i, a, rfl, _⟩ := h
    rfl
  obtain ⟨r, tl, pt, i, a, rfl, ⟨⟨dx, e⟩, as, et, hp⟩, hi, q⟩ := h
  refine ⟨_, pss_one (ps_ret (pe_ix ix_seq (pe_ix ix_seq (pe_fld (pv 0) rfl) (pe_fld (pv 0) rfl) (fun _ _ => rfl)) pe_int (fun _ _ => rfl))), ?_⟩
  obtain ⟨x, hx, ex⟩ := paired_at hp i a hi
  refine ⟨_, rfl, r, D.C, dx, _, _, rfl, e, T.cl, T.nT, rfl, ?_⟩
  refine ⟨_, rfl, r, D.C, dx, _, _, rfl, e, T.cl, T.nA, rfl, ?_⟩
  refine .inl ⟨tl, as.map V.ref, (i : Int), .ref x, rfl, rfl, SqL.of et, atI_nat (j := i) (by rw [List.getElem?_map, hx]; rfl), ?_⟩
  exact .inr (.inl ⟨x, _, 0, .str (tx a.1), rfl, rfl, SqT.of ex, atI_nat (j := 0) rfl, q⟩)
def spRefuse (D : RdAd) : Sp := fun vs H Q E => ∃ (r tl : Addr) (pt : List PT) (i : Nat) (a : PT), vs = [.ref r] ∧ RdAt D.C H r tl pt i ∧ pt[i]? = some a ∧ Rs D.cNo E (-2) [((errT a).1 : Int), ((errT a).2 : Int)]
theorem errT_bad {a : PT} (h : a.1 = sBad) : errT a = (1, a.2.2) := by
  unfold errT
  rw [if_pos h]
theorem errT_ok {a : PT} (h : a.1 ≠ sBad) : errT a = (2, a.2.2) := by
  unfold errT
  rw [if_neg h]
theorem ok_refuse (T : RdC K mg D) : FnOk P w K mg base (L2N.CX P w) 4 D.fR D.dR ["self"] (spRefuse D) := by
  refine okN T.R.F scRefuse (fun vs H Q E h => ?_) (fun cdv A outer s H vs Q E hr h => ?_)
  · obtain ⟨r, tl, pt, i, a, rfl, _⟩ := h
    rfl
  obtain ⟨r, tl, pt, i, a, rfl, R, hi, rs⟩ := h
  have hr1 : Room 1 _ := hr.mono (by decide)
  have tk := L2N.takes_of (X := cxOf (L2N.CX P w) P w K mg base ["self", "place"] "Reader.refuse" (defScope sRefuse) D.fR cdv A outer s H E) (E := E) rfl rfl rfl rfl
  refine ⟨_, pss_cons (ps_set (i := 1) scRefuse.nd rfl (Or.inl rfl) (pe_ix ix_seq (pe_ix ix_seq (pe_fld (pv 0) rfl) (pe_fld (pv 0) rfl) (fun _ _ => rfl)) pe_int (fun _ _ => rfl)))
    (pss_cons (ps_if (pt_cmpR op_eq (pe_meth0 (pv 0) T.cl T.Hh.m (ok_here T) hr1 T.Hh.b .nil pass0) (pe_gs rfl T.G.BAD) (by rfl))
      (pss_one (L2N.ps_raise rfl tk (pmk_exN T.no.ex T.no.iC T.no.tI (ok_noI T.FNo T.FRef T.bRef T.ref.g T.cr T.cv T.mE T.vE) hr T.bNo pass0 rfl T.no.g (pa_cons (pe_gi rfl T.BT) (pa_cons (pv 1) pa_nil))))) pss_nil)
    (pss_one (L2N.ps_raise rfl tk (pmk_exN T.no.ex T.no.iC T.no.tI (ok_noI T.FNo T.FRef T.bRef T.ref.g T.cr T.cv T.mE T.vE) hr T.bNo pass0 rfl T.no.g (pa_cons (pe_gi rfl T.WT) (pa_cons (pv 1) pa_nil)))))), ?_⟩
  obtain ⟨⟨dx, e⟩, as, et, hp⟩ := R
  obtain ⟨x, hx, ex⟩ := paired_at hp i a hi
  refine ⟨_, rfl, r, D.C, dx, _, _, rfl, e, T.cl, T.nT, rfl, ?_⟩
  refine ⟨_, rfl, r, D.C, dx, _, _, rfl, e, T.cl, T.nA, rfl, ?_⟩
  refine .inl ⟨tl, as.map V.ref, (i : Int), .ref x, rfl, rfl, SqL.of et, atI_nat (j := i) (by rw [List.getElem?_map, hx]; rfl), ?_⟩
  refine .inr (.inl ⟨x, _, 2, .int (a.2.2 : Int), rfl, rfl, SqT.of ex, atI_nat (j := 2) rfl, ?_⟩)
  refine ⟨_, rfl, r, dx, _, rfl, e, rfl, r, tl, pt, i, a, rfl, ⟨⟨dx, e⟩, as, et, hp⟩, hi, rfl, ?_⟩
  rw [dec_str]
  by_cases hb : a.1 = sBad
  · rw [errT_bad hb] at rs
    rw [decide_eq_true hb]
    exact ⟨_, rfl, iteT (mk_no T.no rs fun R k => ⟨_, rfl, k⟩)⟩
  · rw [errT_ok hb] at rs
    rw [decide_eq_false hb]
    refine ⟨_, rfl, iteF ?_⟩
    show tMkN D.cNo (spNoI K) (tCons (tC (V.int 2)) (tCons (tVar 1) tNil)) _ _ _
    exact mk_no T.no rs fun R k => ⟨_, rfl, k⟩
def spTake (D : RdAd) : Sp := fun vs H Q E => ∃ (r tl : Addr) (pt : List PT) (i : Nat) (a : PT) (k : Bytes), vs = [.ref r, .str (tx k)] ∧ RdAt D.C H r tl pt i ∧ pt[i]? = some a ∧
  (a.1 = k → ∀ H', Kp [r] H H' → RdAt D.C H' r tl pt (i + 1) → Q (.str (tx a.2.1)) H') ∧ (a.1 ≠ k → Rs D.cNo E (-2) [((errT a).1 : Int), ((errT a).2 : Int)])
theorem ok_take (T : RdC K mg D) : FnOk P w K mg base (L2N.CX P w) 5 D.fT D.dT ["self", "kind"] (spTake D) := by
  refine okN T.T.F scTake (fun vs H Q E h => ?_) (fun cdv A outer s H vs Q E hr h => ?_)
  · obtain ⟨r, tl, pt, i, a, k, rfl, _⟩ := h
    rfl
  obtain ⟨r, tl, pt, i, a, k, rfl, R, hi, good, rs⟩ := h
  have hr1 : Room 1 _ := hr.mono (by decide)
  refine ⟨_, pss_cons (ps_if (pt_cmpR op_ne (pe_meth0 (pv 0) T.cl T.Hh.m (ok_here T) hr1 T.Hh.b .nil pass0) (pv 1) (by rfl))
      (pss_one (ps_expr (pe_meth0 (pv 0) T.cl T.R.m (ok_refuse T) hr T.R.b .nil passN))) pss_nil)
    (pss_cons (ps_set (i := 2) scTake.nd rfl (Or.inl rfl) (pe_ix ix_seq (pe_ix ix_seq (pe_fld (pv 0) rfl) (pe_fld (pv 0) rfl) (fun _ _ => rfl)) pe_int (fun _ _ => rfl)))
    (pss_cons (ps_fldaug (pv 0) pe_int in_add)
    (pss_one (ps_ret (pv 2))))), ?_⟩
  have R0 := R
  obtain ⟨⟨dx, e⟩, as, et, hp⟩ := R
  obtain ⟨x, hx, ex⟩ := paired_at hp i a hi
  refine ⟨_, rfl, r, dx, _, rfl, e, rfl, r, tl, pt, i, a, rfl, R0, hi, _, rfl, rfl, ?_⟩
  rw [dec_str]
  by_cases hb : a.1 = k
  · rw [decide_eq_true hb]
    refine ⟨_, rfl, iteF ?_⟩
    refine ⟨_, rfl, r, D.C, dx, _, _, rfl, e, T.cl, T.nT, rfl, ?_⟩
    refine ⟨_, rfl, r, D.C, dx, _, _, rfl, e, T.cl, T.nA, rfl, ?_⟩
    refine .inl ⟨tl, as.map V.ref, (i : Int), .ref x, rfl, rfl, SqL.of et, atI_nat (j := i) (by rw [List.getElem?_map, hx]; rfl), ?_⟩
    refine .inr (.inl ⟨x, _, 1, .str (tx a.2.1), rfl, rfl, SqT.of ex, atI_nat (j := 1) rfl, ?_⟩)
    refine ⟨_, rfl, r, D.C, dx, _, _, rfl, e, T.cl, T.nA, rfl, _, _, rfl, rfl, dx, _, e, (by show 2 < 1000; decide), ?_⟩
    refine ⟨_, rfl, ?_⟩
    have kp : Kp [r] H (upd H r (.ins D.C dx [("tokens", .ref tl), ("at", .int (((i + 1 : Nat) : Int)))])) := Kp.put e rfl (List.mem_singleton.mpr rfl)
    exact good hb _ kp ⟨⟨dx, upd_same⟩, R0.toks.kp kp (fun z => R0.ne (List.mem_singleton.mp z).symm)⟩
  · rw [decide_eq_false hb]
    exact ⟨_, rfl, iteT ⟨_, rfl, r, dx, _, rfl, e, rfl, r, tl, pt, i, a, rfl, R0, hi, rs hb⟩⟩
end
end SDP
set_option Elab.async false
set_option linter.all false
set_option maxRecDepth 100000
set_option maxHeartbeats 4000000
/-! # A comprehension whose item may raise -/
namespace PySem
open Sem (wp)
section
variable {M : Model} {A : Around} {E : Value → Shared → Prop} {s : Shared} {env : Env}
def postF (M : Model) (A : Around) (E : Value → Shared → Prop) (Q : Value → Shared → Prop) (acc : Value) (fr : Option Addr) (C : Addr) (r : Result) (s' : Shared) : Prop :=
  match r with
  | .ok _ => ∃ m, s'.heap.Ns C m ∧ ∀ h', Heap.SameBut C s'.heap h' → Q acc { s' with heap := h' }
  | .error x => ∃ m, s'.heap.Ns C m ∧ ∀ h', Heap.SameBut C s'.heap h' → ∀ cenv : Env, cenv.locals = C → cenv.frame = fr → wpAny M A (passOn "comprehension.variables-let-go" x cenv : Sem Value) (fun _ _ => False) E { s' with heap := h' }
theorem comp_free {e : Expr} {scope : Scope} {pos : Pos} {newAcc first : Sem Value} {g : Comprehension} {gs : List Comprehension} {cl : List (Str × Addr)} 
    {Q : Value → Shared → Prop}
    (hcl : clausesOf e = g :: gs) (hs : ∀ x, foldedSetIterable g.iter env x = pure x) (hclos : closureFor scope env = pure cl)
    (hkind : scope.kind = .function) (hnames : ∀ x ∈ scope.names, x.2 = .local → scope.names.lookup x.1 = some .local)
    (h : wpAny M A first (fun x s₁ => wpAny M A (pyIter x) (fun it s₂ => wpAny M A newAcc (fun acc s₃ =>
      wpAny M A (newFunctionEnv scope env.globals cl [] env.qual none .none (some env)) (fun cenv s₄ =>
        codeAny M A (.compStart e 0 it acc { cenv with scope := relabel scope env }) (postF M A E Q acc cenv.frame cenv.locals) s₄) E s₃) E s₂) E s₁) E s) :
    wpAny M A (comprehension e scope env pos newAcc false first none) Q E s := by
  unfold comprehension
  rw [hclos, hcl]
  refine wpAny_bind (wpAny_mono h (fun x s₁ h₁ => wpAny_bind (wpAny_standAt (wpAny_bind (wpAny_of_eq (hs x) (wpAny_bind (wpAny_holding (wpAny_mono h₁ (fun it s₂ h₂ =>
    wpAny_standIf (wpAny_bind (wpAny_mono h₂ (fun acc s₃ h₃ => wpAny_bind (wpAny_pure (wpAny_bind (wpAny_mono h₃ (fun cenv s₄ h₄ => ?_) fun _ _ h' => h')))) fun _ _ h' => h')))
      fun _ _ h' => h'))))))) fun _ _ h' => h')
  dsimp only
  have hv : ∀ x ∈ (scope.names.filter fun x => (x.2 == .local || x.2 == .cell) && x.1 != (".0" : Str)).reverse, x.2 = .local →
      Env.kindOf { cenv with scope := relabel scope env } x.1 = some .local := fun x hx hl => lookup_relabel_local (hnames x (List.mem_filter.mp (List.mem_reverse.mp hx)).1 hl)
  have hv' : ∀ x ∈ (scope.names.filter fun x => (x.2 == .local || x.2 == .cell) && x.1 != (".0" : Str)).reverse.drop 1 ++ (scope.names.filter fun x => (x.2 == .local || x.2 == .cell) && x.1 != (".0" : Str)).reverse.take 1,
      x.2 = .local → Env.kindOf { cenv with scope := relabel scope env } x.1 = some .local := fun x hx hl => by
    rcases List.mem_append.mp hx with h1 | h1
    · exact hv x (List.mem_of_mem_drop h1) hl
    · exact hv x (List.mem_of_mem_take h1) hl
  refine wpAny_holding (wpAny_bind (wpAny_attempt (wpAny_holding (wpAny_run (codeAny_mono h₄ fun r s' hr => ?_)))))
  cases r with
  | ok f =>
    obtain ⟨m, hn, hr⟩ := hr
    exact wpAny_bind (wpAny_holding (wpAny_comp_letGo (cenv := { cenv with scope := relabel scope env }) hkind _ s' m hv hn fun h' m' _ hs' => wpAny_pure (hr h' hs')))
  | error x =>
    obtain ⟨m, hn, hr⟩ := hr
    exact wpAny_bind (wpAny_holding (wpAny_comp_letGo (cenv := { cenv with scope := relabel scope env }) hkind _ s' m hv hn fun h' m' _ hs' => wpAny_mono (hr h' hs' _ rfl rfl) (fun _ _ f => f.elim) fun _ _ y => y))
end
end PySem
namespace SDX
open PySem PySem.Spec PyProof.Rows L2
theorem note_cg {e : Value} {env env' : Env} (h : env.frame = env'.frame) : noteFrame e env = noteFrame e env' := by
  unfold noteFrame PySem.frameOf
  rw [h]
theorem frames_less {h base base' : Heap} (k : ∀ b, base.get? b = none → base'.get? b = none) : ∀ {l : List Env}, h.FunFrames base l → h.FunFrames base' l
  | [], _ => trivial
  | env :: r, x => by
    obtain ⟨hk, ⟨L, o, hf, hn, ho, hd⟩, hr⟩ := x
    exact ⟨hk, ⟨L, o, hf, k L hn, ho, hd⟩, frames_less k hr⟩
theorem frames_but {h h' base : Heap} : ∀ {l : List Env}, (∀ b ∈ frs l, h'.get? b = h.get? b) → h.FunFrames base l → h'.FunFrames base l
  | [], _, _ => trivial
  | env :: r, k, x => by
    obtain ⟨hk, ⟨L, o, hf, hn, ho, hd⟩, hr⟩ := x
    have m : L ∈ frs (env :: r) := by unfold frs; rw [List.filterMap_cons, hf]; exact List.mem_cons_self
    exact ⟨hk, ⟨L, o, hf, hn, (k L m).trans ho, hd⟩, frames_but (fun b hb => k b (by
      unfold frs at hb ⊢
      rw [List.filterMap_cons, hf]
      exact List.mem_cons_of_mem _ hb)) hr⟩
section
variable {X : Cx}
theorem lc_err {pins pins' : List (Addr × Obj)} {σ σ' : L2.St} {H0 H' : Hp} {s3 s9 s' : Shared} {scope : Scope} {ce : Env} {fp : List Addr} {E : XK} {u : Value} {Qf : Value → Shared → Prop} {acc : Value} (hst : X.stack = X.env :: X.outer) (hfr : X.env.frame = some X.env.locals)
    (tk : L2N.Takes X (fun cls d _ H => E cls d H)) (I3 : Inv X pins σ H0 s3) (f3 : ∀ b ∈ fp, FpOk X pins H0 b) (cL : ce.locals = s3.heap.objs.size) (cF : ce.frame = X.env.frame)
    (I9 : Inv (X.blk s3 H0 scope ce fp) pins' σ' H' s9) (c : L2N.CX X.prog X.w X.stack H' s9 E u s') :
    notedBy (model X.prog X.w) X.A ce (fun e s'' => postF (model X.prog X.w) X.A X.xe Qf acc X.env.frame s3.heap.objs.size (.error e) s'') u s' := by
  obtain ⟨a, B, H2, cls, d, rfl, fl, hok, ub, na, os, ag, hE⟩ := c
  have ok := I3.ok
  -- the state without the error, in the block
  obtain ⟨G, g1, g2⟩ := restrict s'.heap fun b => (B.get? b).isSome || decide (b ∈ frs X.stack)
  have st : B.StaysIn s'.heap := fl.1
  have gB : ∀ b o, B.get? b = some o → G.get? b = some o := fun b o e => by
    rw [g1 b (by simp [e])]
    exact st b o e
  have gF : ∀ b, b ∈ frs X.stack → G.get? b = s'.heap.get? b := fun b hb => g1 b (by simp [hb])
  have og : ∀ b o, G.get? b = some o → s'.heap.get? b = some o ∧ ((B.get? b).isSome = true ∨ b ∈ frs X.stack) := fun b o e => by
    cases q : ((B.get? b).isSome || decide (b ∈ frs X.stack)) with
    | false => rw [g2 b q] at e; cases e
    | true =>
      rw [g1 b q] at e
      exact ⟨e, by simpa [Bool.or_eq_true] using q⟩
  have J : Inv (X.blk s3 H0 scope ce fp) pins' σ' H2 { s9 with heap := G, gens := s'.gens, drawn := s'.drawn, toks := s'.toks } := by
    refine I9.call (ch := []) ⟨fun b o e n hb _ => gB b o (ub.keep b o e n hb), fun b o e n hb _ => ?_, fun b o e n _ => ub.free b o e n, fun b o e _ => ?_, ub.tups, ub.frzs, ub.tbls⟩ (hok.kept gB) ag (fun _ z => nomatch z)
    · obtain ⟨sl, q⟩ := ub.slot b o e hb
      exact ⟨sl, by rw [gF b hb]; exact q⟩
    · by_cases hb : b ∈ frs X.stack
      · obtain ⟨sl, q⟩ := ub.slot b o e hb
        exact ⟨_, by rw [gF b hb]; exact q⟩
      · obtain ⟨o', q⟩ := ub.there b o e hb
        exact ⟨o', gB b o' q⟩
  have nb : ∀ b o, G.get? b = some o → b ∉ frs X.stack → B.get? b = some o := fun b o e hb => by
    obtain ⟨e', h⟩ := og b o e
    rcases h with h | h
    · obtain ⟨o', q⟩ := Option.isSome_iff_exists.mp h
      have z := st b o' q
      rw [e'] at z; cases z
      exact q
    · exact absurd h hb
  have up : G.UpToSlots s'.heap := Heap.UpToSlots.of_keeps fun b o e => (og b o e).1
  have hA : X.A.frames = some (X.env :: X.outer) := by rw [ok.frames, hst]
  rw [hst] at fl
  show wpAny (model X.prog X.w) X.A (noteFrame (.ref a) ce) _ _ s'
  rw [note_cg cF]
  refine PXN.looks_onZ L2N.Zn.steady hA hfr fl fun h1 held up1 => ?_
  obtain ⟨mC, hnC, _⟩ := J.loc
  have hnC : G.Ns s3.heap.objs.size mC := by rw [← cL]; exact hnC
  have hn1 : h1.Ns s3.heap.objs.size mC := (up.trans up1).ns hnC
  refine ⟨mC, hn1, fun h2 sb cenv hcl hcf => ?_⟩
  generalize hCC : s3.heap.objs.size = C at *
  -- C is no frame, nothing of the error's
  have nC : ∀ b ∈ frs X.stack, b ≠ C := fun b hb z => by
    obtain ⟨_, o, ho, _⟩ := I3.stack.mem hb
    have q := Heap.lt_size ho
    rw [z, ← hCC] at q
    exact absurd q (Nat.lt_irrefl _)
  have nC' : ∀ b ∈ frs (X.env :: X.outer), b ≠ C := fun b hb => nC b (by rw [hst]; exact hb)
  have dictC : ∀ {o : Obj} {vs : Array Value}, h1.get? C = some o → o.data = .fields vs → False := fun {o vs} e dd => by
    obtain ⟨o', es, ep, e', d', _⟩ := hn1
    rw [e] at e'
    cases e'
    rw [dd] at d'
    cases d'
  obtain ⟨B2, b1, b2⟩ := restrict B fun b => decide (b ≠ C)
  have bk : ∀ b, b ≠ C → B2.get? b = B.get? b := fun b hb => b1 b (decide_eq_true hb)
  have bC : B2.get? C = none := b2 C (by simp)
  have bsub : ∀ b o, B2.get? b = some o → B.get? b = some o ∧ b ≠ C := fun b o e => by
    by_cases hb : b = C
    · rw [hb, bC] at e
      cases e
    · exact ⟨(bk b hb).symm.trans e, hb⟩
  have bnone : ∀ b, B.get? b = none → B2.get? b = none := fun b e => by
    by_cases hb : b = C
    · rw [hb]; exact bC
    · exact (bk b hb).trans e
  obtain ⟨f1, f2, f4, oe, vs, T, oT, ts, he, hz, hd, hv1, hnT, hTe, hT, hdT, hts⟩ := held
  have neA : a ≠ C := fun z => dictC (z ▸ he) hd
  have neT : T ≠ C := fun z => dictC (z ▸ hT) hdT
  have held2 : HandSPX.HeldZ B2 (X.env :: X.outer) a (L2N.Zn cls d) X.env.locals h2 :=
    ⟨fun b o e => by
      obtain ⟨e1, hb⟩ := bsub b o e
      exact (sb.2 b hb).trans (f1 b o e1), bnone a f2, frames_less bnone (frames_but (fun b hb => sb.2 b (nC' b hb)) f4),
     oe, vs, T, oT, ts, (sb.2 a neA).trans he, hz, hd, hv1, bnone T hnT, hTe, (sb.2 T neT).trans hT, hdT, hts⟩
  unfold PySem.passOn
  refine wpAny_bind (wpAny_field ((sb.2 a neA).trans he) hd hv1 ?_)
  rw [if_neg (show ¬ ((Value.ref T == Value.none) = true) from by simp), hcf, hfr]
  have fin : wpAny (model X.prog X.w) X.A (setFlight (.ref a) (some X.env.locals)) (fun _ s₂ => wpAny (model X.prog X.w) X.A (throw (.ref a) : Sem Value) (fun _ _ => False) X.xe s₂) X.xe { s' with heap := h2 } := by
    refine HandSPX.setFlight_onZ held2 fun h3 held3 up3 => wpAny_throw ?_
    obtain ⟨G2, g3, g4⟩ := restrict G fun b => decide (b ≠ C)
    have gk : ∀ b, b ≠ C → G2.get? b = G.get? b := fun b hb => g3 b (decide_eq_true hb)
    have gC : G2.get? C = none := g4 C (by simp)
    have gsub : ∀ b o, G2.get? b = some o → G.get? b = some o ∧ b ≠ C := fun b o e => by
      by_cases hb : b = C
      · rw [hb, gC] at e
        cases e
      · exact ⟨(gk b hb).symm.trans e, hb⟩
    have hH2C : H2 C = none := by
      have z := J.free
      have z2 : H2 ce.locals = none := z
      rw [cL] at z2
      exact z2
    have old : ∀ b o, s3.heap.get? b = some o → b ≠ C := fun b o e z => by
      have q := Heap.lt_size e
      rw [z, ← hCC] at q
      exact absurd q (Nat.lt_irrefl _)
    have ub2 : Un (frs X.stack) fp H0 H2 s3.heap G := J.base
    have J2 : Inv X pins σ H2 { s9 with heap := G2, gens := s'.gens, drawn := s'.drawn, toks := s'.toks } := by
      refine I3.call' (ch := fp) (s' := { s9 with heap := G2, gens := s'.gens, drawn := s'.drawn, toks := s'.toks }) J.os
        ⟨fun b o e n hb hx => (gk b (old b o e)).trans (ub2.keep b o e n hb hx), fun b o e n hb hx => ?_, ub2.free, fun b o e hx => ?_, ub2.tups, ub2.frzs, ub2.tbls⟩ (fun b w e => ?_) J.bare
        (fun b hb => ⟨(f3 b hb).2.2.2.1, (f3 b hb).2.1, (f3 b hb).2.2.2.2.1, (f3 b hb).2.2.2.2.2⟩)
      · obtain ⟨sl, q⟩ := ub2.slot b o e n hb hx
        exact ⟨sl, (gk b (old b o e)).trans q⟩
      · obtain ⟨o', q⟩ := ub2.there b o e hx
        exact ⟨o', (gk b (old b o e)).trans q⟩
      · refine (J.hok b w e).stay (fun c v hc q => ?_) (fun _ q => q) fun _ _ q => q
        have hcC : c ≠ C := fun z => by
          rcases hc with hc | hc
          · rw [← hc, z, hH2C] at e
            cases e
          · rw [z, hH2C] at hc
            cases hc
        exact (gk c hcC).trans q
    refine tk _ _ ⟨a, B2, { s9 with heap := G2, gens := s'.gens, drawn := s'.drawn, toks := s'.toks }, pins, σ, H2, cls, d, rfl, J2, fun b o e hb => ?_, fun b o e hn => ?_, .inr (.inr (by rw [hst]; exact held3)), na, os, ag, hE⟩
    · obtain ⟨e1, hbC⟩ := gsub b o e
      exact (bk b hbC).trans (nb b o e1 hb)
    · obtain ⟨e1, hbC⟩ := gsub b o e
      obtain ⟨sl, e2⟩ := (up.trans up1) b o e1 hn
      have e3 : h2.get? b = some { o with slots := sl } := (sb.2 b hbC).trans e2
      obtain ⟨sl', e4⟩ := up3 b _ e3 hn
      exact ⟨sl', e4⟩
  first
    | exact wpAny_bind (wpAny_pure (wpAny_bind fin))
    | exact wpAny_bind fin
theorem lc_coreX {pins : List (Addr × Obj)} {s : Shared} {σ : L2.St} {H : Hp} {Q : VK} {elt tg iter : Expr} {ifs : List Expr} {scope : Scope} {own : List (Str × Nat)} {pos pos' : Pos} {wi : TI} {g : TG} {tt : TT} {te : TE} {Qf : Value → Shared → Prop} {E : XK}
    (hc : X.calm = true) (hst : X.stack = X.env :: X.outer) (hfr : X.env.frame = some X.env.locals) (tk : L2N.Takes X (fun cls d _ H => E cls d H)) (hN : X.N.Nodup) (I : Inv X pins σ H s) (hi : PI X tg iter wi) (ok : BlkOk X.N X.env.scope scope own)
    (hg : ∀ (s : Shared) (H : Hp) (C : Addr) (cl : List (Str × Addr)) (fp : List Addr), PG (X.blk s H scope (compEnvC scope cl C X.env) fp) tg g) (ht : ∀ (s : Shared) (H : Hp) (C : Addr) (cl : List (Str × Addr)) (fp : List Addr), PTs (X.blk s H scope (compEnvC scope cl C X.env) fp) ifs tt)
    (he : ∀ (s : Shared) (H : Hp) (C : Addr) (cl : List (Str × Addr)) (fp : List Addr) (xe : Value → Shared → Prop), Passes (L2N.CX X.prog X.w) ((X.blk s H scope (compEnvC scope cl C X.env) fp).wish xe) E → PE ((X.blk s H scope (compEnvC scope cl C X.env) fp).wish xe) elt te) (hs : ∀ x, foldedSetIterable iter X.env x = pure x)
    (h : tLc wi g tt te (own.map (·.2)) σ H Q)
    (hRR : ∀ D C s' m H', Inv X pins σ H' s' → Q (.ref D) H' → s'.heap.Ns C m → FpOk X pins H' C → postF (model X.prog X.w) X.A X.xe Qf (.ref D) X.env.frame C (.ok .next) s') :
    wpAny (model X.prog X.w) X.A (comprehension (.ListComp elt [⟨tg, iter, ifs, 0⟩] scope pos) scope X.env pos' (newList []) false (eval iter X.env) none) Qf X.xe s := by
  have hfree : ∀ y ∈ scope.names, y.2 = .free → ∃ c, X.env.cells.lookup y.1 = some c := fun y hy e => by
    rcases ok.free y hy e with k | k
    · exact I.ok.has _ (.inl k)
    · exact I.ok.has _ (.inr k)
  refine comp_free rfl hs (closure_ok hfree) ok.kind (fun y hy e => by rw [ok.uniq y hy, e])
    (thn (hi.run pins s σ H _ I h) fun xv s1 hx => thn hx fun itv s2 h2 => ?_)
  obtain ⟨it, fp, tn, J, H2, e, I2, T, st2, f2, q⟩ := h2
  subst e
  refine wpAny_newObj_type (newEnv_comp ?_) (by show 0 ≤ sizeLine; decide)
  generalize hD : s2.heap.objs.size = D
  have hDn : H2 D = none := I2.hok.fresh (Nat.le_of_eq hD)
  obtain ⟨W, ⟨m0, w0⟩, turn⟩ := q D hDn
  -- the new list
  generalize hs3 : ({ s2 with heap := s2.heap.push { cls := .type "list", data := .seq ([] : List Value).toArray } } : Shared) = s3
  have I3 : Inv X pins σ (upd H2 D (.lst [])) s3 := by
    rw [← hs3]
    refine I2.laid (t' := s2.toks) (fun b o e => Heap.get?_push_of_some _ e) (Nat.le_of_eq hD) ⟨Nat.zero_le _, [], 0, .nil, ?_⟩
    rw [← hD]
    exact Heap.get?_push_size _ rfl
  have h3 : s3.heap = s2.heap.push { cls := .type "list", data := .seq ([] : List Value).toArray } := by rw [← hs3]
  have sz : ∀ b ∈ fp, b < s2.heap.objs.size := fun b hb => by
    obtain ⟨o, e, _⟩ := T.obj _ _ st2 b hb
    exact Heap.lt_size e
  have f3 : ∀ b ∈ fp, FpOk X pins (upd H2 D (.lst [])) b ∧ b < s3.heap.objs.size := fun b hb => by
    have hlt := sz b hb
    refine ⟨⟨?_, (f2 b hb).2⟩, by rw [h3, Heap.size_push]; exact Nat.lt_succ_of_lt hlt⟩
    rw [upd_ne (by rw [← hD]; exact Nat.ne_of_lt hlt)]
    exact (f2 b hb).1
  have st3 : tn 0 s3.heap := T.keep _ _ _ st2 fun b _ o e => by rw [h3]; exact Heap.get?_push_of_some _ e
  have I4 := block_start I3 ok hN f3
  have pg := hg s3 (upd H2 D (.lst [])) s3.heap.objs.size (cellsFrom (s3.heap.objs.size + 1) scope.names (cloFrom X.env.cells scope.names [])) fp
  have pt := ht s3 (upd H2 D (.lst [])) s3.heap.objs.size (cellsFrom (s3.heap.objs.size + 1) scope.names (cloFrom X.env.cells scope.names [])) fp
  have pe := he s3 (upd H2 D (.lst [])) s3.heap.objs.size (cellsFrom (s3.heap.objs.size + 1) scope.names (cloFrom X.env.cells scope.names [])) fp (fun u s' => ∃ pins σ H s, Inv (X.blk s3 (upd H2 D (.lst [])) scope (compEnvC scope (cellsFrom (s3.heap.objs.size + 1) scope.names (cloFrom X.env.cells scope.names [])) s3.heap.objs.size X.env) fp) pins σ H s ∧ L2N.CX X.prog X.w X.stack H s E u s') (fun pins σ H s e s' I c => ⟨pins, σ, H, s, I.unwish, c⟩)
  show codeAny _ _ (.compStart (.ListComp elt [⟨tg, iter, ifs, 0⟩] scope pos) 0 (.ref it) (.ref D) (compEnvC scope (cellsFrom (s3.heap.objs.size + 1) scope.names (cloFrom X.env.cells scope.names [])) s3.heap.objs.size X.env)) (postF (model X.prog X.w) X.A X.xe Qf (.ref D) X.env.frame s3.heap.objs.size) { s3 with heap := pushCells (s3.heap.push { cls := .type "dict", data := .dict #[] }) scope.names }
  have nfp : ∀ b ∈ fp, (upd H2 D (.lst [])) b = none := fun b hb => (f3 b hb).1.1
  generalize hce : compEnvC scope (cellsFrom (s3.heap.objs.size + 1) scope.names (cloFrom X.env.cells scope.names [])) s3.heap.objs.size X.env = ce at I4 pg pt pe ⊢
  have cL : ce.locals = s3.heap.objs.size := by subst hce; rfl
  have cF : ce.frame = X.env.frame := by subst hce; rfl
  generalize hH3 : upd H2 D (.lst []) = H3 at I3 I4 pg pt pe w0 nfp f3
  generalize hs4 : ({ s3 with heap := pushCells (s3.heap.push { cls := .type "dict", data := .dict #[] }) scope.names } : Shared) = s4 at I4 ⊢
  have st4 : tn 0 s4.heap := T.keep _ _ _ st3 fun b _ o e => by rw [← hs4]; exact pushCells_keeps _ _ _ _ (Heap.get?_push_of_some _ e)
  have stat : ∀ {σ' : L2.St} {H' : Hp} {s' : Shared}, Inv (X.blk s3 H3 scope ce fp) [] σ' H' s' → (∀ b ∈ fp, H' b = none) → ∀ b ∈ fp, FpOk (X.blk s3 H3 scope ce fp) [] H' b := fun {σ' H' s'} I' hn b hb =>
    ⟨hn b hb, (I'.ok.exf b hb).1, I'.ok.exfs b hb, .inl hb, fun x c e => (I'.ok.exf b hb).2 x c e, fun p hp => absurd (show p ∈ ([] : List (Addr × Obj)) ++ [] from hp) (by simp)⟩
  have loop : codeAny (model X.prog X.w) X.A (.compLoop (.ListComp elt [⟨tg, iter, ifs, 0⟩] scope pos) 0 (.ref it) (.ref D) ce) (postF (model X.prog X.w) X.A X.xe Qf (.ref D) X.env.frame s3.heap.objs.size) s4 := by
    refine compLoop_any (fun n s' => ∃ i H', Inv (X.blk s3 H3 scope ce fp) [] (wipe σ (own.map (·.2))) H' s' ∧ tn i s'.heap ∧ (∀ b ∈ fp, H' b = none) ∧ W i n H') ?_ m0 ⟨0, H3, I4, st4, nfp, w0⟩
    rintro n s5 ⟨i, H5, I5, st5, n5, w5⟩
    rcases turn i n H5 w5 with ⟨stop, qq⟩ | ⟨go, Nx, hNx, step⟩
    · have td := T.done (X.blk s3 H3 scope ce fp) rfl rfl rfl hc i [] s5 _ H5 (fun _ _ => False) I5 (stat I5 n5) st5 stop
      refine thnF td fun r s6 ⟨hr, I6⟩ => ?_
      subst hr
      -- back in the def's context
      have I7 : Inv X pins σ H5 s6 := I3.call' (ch := fp) I6.os I6.base I6.hok I6.bare fun b hb => ⟨(f3 b hb).1.2.2.2.1, (f3 b hb).1.2.1, (f3 b hb).1.2.2.2.2.1, (f3 b hb).1.2.2.2.2.2⟩
      have nC : H5 s3.heap.objs.size = none := by
        have z : H5 ce.locals = none := I6.free
        rw [cL] at z
        exact z
      obtain ⟨m, hn, _⟩ := I6.loc
      have hn : s6.heap.Ns ce.locals m := hn
      rw [cL] at hn
      exact hRR D s3.heap.objs.size s6 m H5 I7 qq hn (I3.fpOk (Nat.le_refl _) nC)
    · have ti := T.item (X.blk s3 H3 scope ce fp) rfl rfl rfl hc i [] s5 _ H5 (fun _ _ => False) I5 (stat I5 n5) st5 go
      refine thnF ti fun r s6 ⟨u, hr, h6⟩ => ?_
      subst hr
      refine thnF h6 fun _ s7 ⟨x, H7, I7, r7, y7, st7, n7⟩ => ?_
      have I7' := I7.pinned (stat I7 n7) (T.obj _ _ st7)
      refine thnF (pg.run _ s7 _ H7 x u _ I7' r7 (step x H7 y7)) fun _ s8 ⟨σ8, H8, I8, hw8, q8⟩ => ?_
      refine thnF (pt.run _ s8 σ8 H8 _ I8 q8) fun b s9 ⟨H9, I9, q9⟩ => ?_
      -- the turn's end
      have fin : ∀ {s' : Shared} {H' : Hp}, Inv (X.blk s3 H3 scope ce fp) ([] ++ pinsAt fp s7.heap) σ8 H' s' → Nx H' → ∃ m, m < n ∧ ∃ i H', Inv (X.blk s3 H3 scope ce fp) [] (wipe σ (own.map (·.2))) H' s' ∧ tn i s'.heap ∧ (∀ b ∈ fp, H' b = none) ∧ W i m H' := fun {s' H'} I' nx => by
        obtain ⟨m', hm, w'⟩ := hNx H' nx
        have pin' : ∀ b ∈ fp, ∀ o, s7.heap.get? b = some o → s'.heap.get? b = some o ∧ H' b = none := fun b hb o e =>
          let z := I'.pin (b, o) (List.mem_append_right _ (List.mem_append_right _ (mem_pinsAt hb e)))
          ⟨z.1, z.2.1⟩
        have hl : (wipe σ (own.map (·.2))).length = σ8.length := by rw [← hw8, wipe_length]
        refine ⟨m', hm, i + 1, H', (I'.unpinned (pins := [])).weak hl (fun j v e => ?_), T.keep _ _ _ st7 fun b hb o e => (pin' b hb o e).1, fun b hb => ?_, w'⟩
        · rw [← hw8] at e
          exact (wipe_some e).1
        · obtain ⟨o, e, _⟩ := T.obj _ _ st7 b hb
          exact (pin' b hb o e).2
      cases b with
      | false =>
        simp only [Bool.false_eq_true, if_false] at q9 ⊢
        exact fin I9 q9
      | true =>
        simp only [if_true] at q9 ⊢
        refine wpAny_mono (pe.run _ s9 σ8 H9 _ (I9.wish _) q9) (fun z s10 ⟨yv, H10, I10, r10, acc, hD10, hz10, nx⟩ => ?_) (fun u s10 ⟨pins', σ', H', s', I', c'⟩ => ?_)
        · exact app_ok (X := X.blk s3 H3 scope ce fp) I10.unwish hD10 hz10 r10 fun s11 I11 => fin I11 nx
        · exact lc_err hst hfr tk I3 (fun b hb => (f3 b hb).1) cL cF I' c'
  exact codeAny_compStart_list loop (T.self X.A 0 _ _ _ st4 loop)
theorem pe_lcX {E : XK} {elt tg iter : Expr} {ifs : List Expr} {scope : Scope} {own : List (Str × Nat)} {pos : Pos} {wi : TI} {g : TG} {tt : TT} {te : TE} (hc : X.calm = true) (hst : X.stack = X.env :: X.outer) (hfr : X.env.frame = some X.env.locals)
    (tk : L2N.Takes X (fun cls d _ H => E cls d H)) (hN : X.N.Nodup) (hi : PI X tg iter wi) (ok : BlkOk X.N X.env.scope scope own)
    (hg : ∀ (s : Shared) (H : Hp) (C : Addr) (cl : List (Str × Addr)) (fp : List Addr), PG (X.blk s H scope (compEnvC scope cl C X.env) fp) tg g) (ht : ∀ (s : Shared) (H : Hp) (C : Addr) (cl : List (Str × Addr)) (fp : List Addr), PTs (X.blk s H scope (compEnvC scope cl C X.env) fp) ifs tt)
    (he : ∀ (s : Shared) (H : Hp) (C : Addr) (cl : List (Str × Addr)) (fp : List Addr) (xe : Value → Shared → Prop), Passes (L2N.CX X.prog X.w) ((X.blk s H scope (compEnvC scope cl C X.env) fp).wish xe) E → PE ((X.blk s H scope (compEnvC scope cl C X.env) fp).wish xe) elt te)
    (hs : ∀ x, foldedSetIterable iter X.env x = pure x := by intro _; rfl) :
    PE X (.ListComp elt [⟨tg, iter, ifs, 0⟩] scope pos) (tLc wi g tt te (own.map (·.2))) := by
  refine ⟨fun pins s σ H Q I h => ?_⟩
  rw [eval_ListComp]
  refine lc_coreX (E := E) hc hst hfr tk hN I hi ok hg ht he hs h fun D C s' m H' I' q hn f => ⟨m, hn, fun h'' sb => ?_⟩
  obtain ⟨f0, f1, f2, f3, f4, f5⟩ := f
  exact ⟨.ref D, H', I'.turned (t' := s'.toks) (fun b o hb e => (sb.2 b hb).trans e) f0 f1 f3 f4 f5, rfl, q⟩
end
end SDX
set_option Elab.async false
set_option linter.all false
set_option maxRecDepth 100000
set_option maxHeartbeats 4000000
namespace SDP
open PySem PySem.Spec PyProof.Rows L2 SDX SD TL
open SeamNum (Bytes)
open SeamText (Toks Got isWord signs ownName)
theorem rest_get {bad : Option Nat} {len : Nat} {pt : List PT} {i : Nat} {t : Toks} (h : Rest bad len (pt.drop i) t) : ∃ a, pt[i]? = some a ∧ Rest bad len (a :: pt.drop (i + 1)) t ∧ i < pt.length := by
  obtain ⟨a, l, e⟩ := h.head
  have hi : i < pt.length := by
    by_cases z : i < pt.length
    · exact z
    · rw [List.drop_eq_nil_of_le (by omega)] at e
      cases e
  have e2 := List.drop_eq_getElem_cons hi
  rw [e2] at h
  exact ⟨_, List.getElem?_eq_getElem hi, h, hi⟩
/-- what is wanted of the error that the words' fault o is -/
def RsO (D : RdAd) (bad : Option Nat) (len : Nat) (E : XK) (o : Option Nat) : Prop := Rs D.cNo E (-2) [((errOf bad len o).1 : Int), ((errOf bad len o).2 : Int)]
theorem RsO.of {D : RdAd} {bad : Option Nat} {len : Nat} {E : XK} {o : Option Nat} {a : PT} (e : errT a = errOf bad len o) (h : RsO D bad len E o) : Rs D.cNo E (-2) [((errT a).1 : Int), ((errT a).2 : Int)] := by
  rw [e]
  exact h
theorem takeN_succ (n : Nat) (t : Toks) : takeN (n + 1) t = SeamNum.next (ownName t) fun b => SeamNum.next (takeN n b.2) fun l => .ok (b.1 :: l.1, l.2) := rfl
section
variable {P : Program} {w : World} {K : PySem.W.Frag} {mg : Str → Option Value} {base : Heap} {D : RdAd}
def spTakeN (D : RdAd) : Sp := fun vs H Q E => ∃ (r tl : Addr) (pt : List PT) (i n : Nat) (bad : Option Nat) (len : Nat) (t : Toks), vs = [.ref r, .int (n : Int)] ∧ n ≤ 16 ∧ RdAt D.C H r tl pt i ∧ Rest bad len (pt.drop i) t ∧
  (∀ (l : List Bytes) (t' : Toks) (H' : Hp) (p : Addr), takeN n t = .ok (l, t') → l.length = n → Kp [r] H H' → RdAt D.C H' r tl pt (i + n) → Rest bad len (pt.drop (i + n)) t' → H p = none → H' p = some (.lst (l.map fun b => V.str (tx b))) → Q (.ref p) H') ∧
  (∀ o, takeN n t = .error o → RsO D bad len E o)
theorem scTakeN : FnScope ["self", "count", "index"] ["self", "count"] (defScope sTakeN) := ⟨rfl, rfl, rfl, by decide +kernel, rfl, by decide +kernel, by decide +kernel⟩
theorem ok_takeN (T : RdC K mg D) : FnOk P w K mg base (L2N.CX P w) 6 D.fN D.dN ["self", "count"] (spTakeN D) := by
  refine okN T.N.F scTakeN (fun vs H Q E h => ?_) (fun cdv A outer s H vs Q E hr h => ?_)
  · obtain ⟨r, tl, pt, i, n, bad, len, t, rfl, _⟩ := h
    rfl
  obtain ⟨r, tl, pt, i, n, bad, len, t, rfl, hn, R, hR, good, rs⟩ := h
  have tk := L2N.takes_of (X := cxOf (L2N.CX P w) P w K mg base ["self", "count", "index"] "Reader.take_names" (defScope sTakeN) D.fN cdv A outer s H E) (E := E) rfl rfl rfl rfl
  refine ⟨_, pss_one (ps_ret (pe_lcX (E := E) (own := [("index", 2)]) (g := gName 2) (tt := tYes) rfl rfl rfl tk scTakeN.nd (pi_range1 rfl T.range (pa_cons (pv 1) pa_nil)) (blkOk_by (N := ["self", "count", "index"]) (sc := defScope sTakeN) (by decide +kernel))
      (fun _ _ _ _ _ => pg_name (i := 2) scTakeN.nd rfl (Or.inl rfl)) (fun _ _ _ _ _ => pts_nil)
      (fun _ _ _ _ _ _ hx => pe_meth (pv 0) T.cl T.T.m (ok_take T) hr T.T.b .nil hx (pa_cons (pe_gs rfl T.G.NAME) pa_nil)))), ?_⟩
  refine ⟨_, rfl, (n : Int), rfl, by omega, by omega, fun D2 hD2 => ?_⟩
  refine lc_it walk_range (fun j H' => ∃ (l : List Bytes) (t1 : Toks), Kp [r] H H' ∧ RdAt D.C H' r tl pt (i + j) ∧ Rest bad len (pt.drop (i + j)) t1 ∧ H' D2 = some (.lst (l.map fun b => V.str (tx b))) ∧ l.length = j ∧
      takeN n t = SeamNum.next (takeN (n - j) t1) fun z => .ok (l ++ z.1, z.2)) ⟨[], t, Kp.new hD2, R.kp (Kp.new (M := []) hD2) (by simp) (by simp), hR, upd_same, rfl, ?_⟩ (fun _ _ _ _ => trivial) (fun j x H2 H3 hj ⟨l, t1, k1, R1, hR1, hl1, el, et⟩ hy => ?_) (fun H2 ⟨l, t1, k1, R1, hR1, hl1, el, et⟩ => ?_)
  · show takeN n t = SeamNum.next (takeN n t) fun z => .ok ([] ++ z.1, z.2)
    cases takeN n t <;> rfl
  · obtain ⟨rfl, rfl⟩ := hy
    have hj' : j < n := hj
    obtain ⟨a, ea, hRa, hi⟩ := rest_get hR1
    have enj : n - j = (n - (j + 1)) + 1 := by omega
    have one := rest_name hRa
    obtain ⟨⟨dx, er⟩, _⟩ := id R1
    refine ⟨rfl, _, rfl, r, dx, _, rfl, er, rfl, r, tl, pt, i + j, a, sName, rfl, R1, ea, fun hk H4 k4 R4 => ?_, fun hk => ?_⟩
    · rcases one with ⟨_, t2, e2, hR2⟩ | ⟨c, _⟩
      · have nD : D2 ∉ [r] := fun z => by
          rw [List.mem_singleton.mp z, er] at hl1
          cases hl1
        have hl4 := k4 _ _ hl1 (.inl nD)
        refine ⟨_, hl4, by rw [List.length_map, el, sizeLine_eq]; omega, l ++ [a.2.1], t2, ?_, ?_, ?_, ?_, by rw [List.length_append, el]; rfl, ?_⟩
        · have k5 : Kp [r] H H4 := k1.trans k4
          intro b o hb hk2
          have hbD : b ≠ D2 := fun z => by rw [z, hD2] at hb; cases hb
          rw [upd_ne hbD]
          exact k5 b o hb hk2
        · have k6 : Kp [D2] H4 (upd H4 D2 (.lst (l.map (fun b => V.str (tx b)) ++ [V.str (tx a.2.1)]))) := Kp.put hl4 rfl (List.mem_singleton.mpr rfl)
          refine R4.kp k6 (fun z => nD (List.mem_singleton.mpr (List.mem_singleton.mp z).symm)) (fun z => ?_)
          obtain ⟨as, ht, _⟩ := R.toks
          rw [List.mem_singleton.mp z] at ht
          rw [ht] at hD2
          cases hD2
        · exact hR2
        · rw [upd_same, List.map_append]
          rfl
        · rw [et, enj, takeN_succ, e2, next_ok, next_next]
          refine next_cg rfl fun z _ => ?_
          show Except.ok (l ++ (a.2.1 :: z.1), z.2) = Except.ok ((l ++ [a.2.1]) ++ z.1, z.2)
          rw [List.append_assoc]
          rfl
      · exact absurd hk c
    · rcases one with ⟨c, _⟩ | ⟨_, o, e2, eo⟩
      · exact absurd c hk
      · refine RsO.of eo (rs o ?_)
        rw [et, enj, takeN_succ, e2]
        rfl
  · have e0 : n - (Int.toNat (n : Int)) = 0 := by omega
    have en : (Int.toNat (n : Int)) = n := by omega
    rw [e0] at et
    rw [en] at R1 hR1 el
    refine good l t1 H2 D2 ?_ el k1 R1 hR1 hD2 hl1
    rw [et]
    show Except.ok (l ++ [], t1) = _
    rw [List.append_nil]
/-! ### plain_number -/
theorem dw_drop {α : Type} {p : α → Bool} : ∀ l : List α, l.drop (l.takeWhile p).length = l.dropWhile p
  | [] => rfl
  | x :: r => by
    rw [List.takeWhile_cons, List.dropWhile_cons]
    by_cases h : p x = true
    · rw [if_pos h, if_pos h, List.length_cons, List.drop_succ_cons, dw_drop r]
    · rw [if_neg h, if_neg h]
      rfl
theorem goes48 : ∀ c : UInt8, (Str.ofString "0").cps.contains c.toNat = (c == 48) := all_u8 (p := fun c => (Str.ofString "0").cps.contains c.toNat = (c == 48)) (by decide +kernel)
theorem tw48 (a : Bytes) : ((a.map UInt8.toNat).takeWhile (Str.ofString "0").cps.contains) = (a.takeWhile fun (c : UInt8) => c == 48).map UInt8.toNat := by
  rw [List.takeWhile_map]
  congr 1
  congr 1
  funext c
  exact goes48 c
theorem lstrip_tx (a : Bytes) : Txt.lstripChars (tx a) (Str.ofString "0") = tx (noNull a) := by
  refine ext_tl ?_
  unfold Txt.lstripChars
  rw [stripBy_eq, tl_strSub]
  have e1 : stripLo (Str.ofString "0").cps.contains true (tx a) = (a.takeWhile fun (c : UInt8) => c == 48).length := by
    show ((a.map UInt8.toNat).takeWhile (Str.ofString "0").cps.contains).length = _
    rw [tw48, List.length_map]
  have e2 : ∀ lo, stripHi (Str.ofString "0").cps.contains false (tx a) lo = (tx a).length := fun lo => rfl
  rw [e1, e2, tx_len]
  show ((a.map UInt8.toNat).drop _).take _ = (noNull a).map UInt8.toNat
  rw [← List.map_drop, dw_drop, ← List.map_take, List.take_of_length_le]
  · rfl
  · rw [← dw_drop, List.length_drop]
    exact Nat.le_refl _
theorem rstrip_tx (d : Bytes) : Txt.rstripChars (tx d) (Str.ofString "0") = tx (noTail d) := by
  refine ext_tl ?_
  unfold Txt.rstripChars
  rw [stripBy_eq, tl_strSub]
  have e1 : stripLo (Str.ofString "0").cps.contains false (tx d) = 0 := rfl
  have e2 : stripHi (Str.ofString "0").cps.contains true (tx d) 0 = d.length - (d.reverse.takeWhile fun (c : UInt8) => c == 48).length := by
    show (tx d).length - (((d.map UInt8.toNat).drop 0).reverse.takeWhile (Str.ofString "0").cps.contains).length = _
    rw [List.drop_zero, ← List.map_reverse, tw48, List.length_map, tx_len]
  rw [e1, e2, List.drop_zero, Nat.sub_zero]
  show (d.map UInt8.toNat).take _ = (noTail d).map UInt8.toNat
  rw [← List.map_take]
  congr 1
  unfold noTail noNull
  have e3 := List.takeWhile_append_dropWhile (p := fun (c : UInt8) => c == 48) (l := d.reverse)
  generalize hA : (d.reverse.takeWhile fun (c : UInt8) => c == 48) = A at e3
  generalize hB : (d.reverse.dropWhile fun (c : UInt8) => c == 48) = B at e3
  have e4 : d = B.reverse ++ A.reverse := by
    rw [← List.reverse_append, e3, List.reverse_reverse]
  have e5 : d.length - A.length = B.reverse.length := by
    rw [e4, List.length_append, List.length_reverse, List.length_reverse]
    omega
  rw [e5, e4, List.take_left']
  rfl
def spPlain : Sp := fun vs H Q _ => ∃ (x a d : Bytes), vs = [.str (tx x)] ∧ x.length ≤ 37 ∧ NumText x a d ∧ ∀ H', Same H H' → Q (.str (tx (plain a d))) H'
theorem scPlain : FnScope ["text", "halves", "whole", "rest"] ["text"] (defScope sPlain) := ⟨rfl, rfl, rfl, by decide +kernel, rfl, by decide +kernel, by decide +kernel⟩
theorem part_num {x a d : Bytes} (N : NumText x a d) : (Txt.partition (tx x) (Str.ofString ".")).1 = tx a ∧ (Txt.partition (tx x) (Str.ofString ".")).2.2 = tx d := by
  have no : ∀ l : Bytes, (∀ c ∈ l, SeamPattern.isDigit c = true) → (46 : Nat) ∉ tl (tx l) := fun l hl z => by
    have z' : (46 : Nat) ∈ l.map UInt8.toNat := z
    obtain ⟨c, hc, e⟩ := List.mem_map.mp z'
    have q := isDigit_iff (hl c hc)
    omega
  have ey : tl (Str.ofString ".") = 46 :: [] := by decide +kernel
  by_cases h : d = []
  · have e : x = a := by rw [N.is, if_pos h]
    rw [e, partition_none ey (no a N.ha), h]
    exact ⟨rfl, rfl⟩
  · have e : tx x = tx a ++ Str.ofString "." ++ tx d := by
      refine ext_tl ?_
      rw [tl_append, tl_append, ey, N.is, if_neg h]
      show (a ++ 46 :: d).map UInt8.toNat = (a.map UInt8.toNat) ++ [46] ++ d.map UInt8.toNat
      rw [List.map_append, List.append_assoc]
      rfl
    rw [e, partition_app ey (no a N.ha)]
    exact ⟨rfl, rfl⟩
theorem num_short {x a d : Bytes} (N : NumText x a d) : a.length ≤ x.length ∧ d.length ≤ x.length := by
  rw [N.is]
  by_cases h : d = []
  · rw [if_pos h, h]
    exact ⟨Nat.le_refl _, Nat.zero_le _⟩
  · rw [if_neg h, List.length_append, List.length_cons]
    omega
theorem noNull_len (a : Bytes) : (noNull a).length ≤ a.length := by
  unfold noNull
  rw [← dw_drop, List.length_drop]
  omega
theorem noTail_len (a : Bytes) : (noTail a).length ≤ a.length := by
  unfold noTail
  have q := noNull_len a.reverse
  rw [List.length_reverse] at q ⊢
  exact q
theorem empty_tx (a : Bytes) : decide (V.str (tx a) = V.str (Str.ofString "")) = decide (a = []) := dec_str a []
theorem ok_plain {f : Addr} {fd : FuncData} (F : Fn1 K mg "plain_number" sPlain ["text"] f fd) : FnOk P w K mg base CX0 1 f fd ["text"] spPlain := by
  refine F.F.ok scPlain (fun vs H Q E h => ?_) (fun cdv A outer s H vs Q E hr h => ?_)
  · obtain ⟨x, a, d, rfl, _⟩ := h
    rfl
  obtain ⟨x, a, d, rfl, h37, N, q⟩ := h
  refine ⟨_, pss_cons (ps_set (i := 1) scPlain.nd rfl (Or.inl rfl) (pe_bm PySem.F.plainAttrs_str PySem.F.slot_str_partition PySem.F.type_str_partition mt_partition (pv 0) (pa_cons pe_str pa_nil)))
    (pss_cons (ps_set (i := 2) scPlain.nd rfl (Or.inl rfl) (pe_bm PySem.F.plainAttrs_str PySem.F.slot_str_lstrip PySem.F.type_str_lstrip mt_lstripChars (pe_ix ix_seq (pv 1) pe_int (fun _ _ => rfl)) (pa_cons pe_str pa_nil)))
    (pss_cons (ps_set (i := 3) scPlain.nd rfl (Or.inl rfl) (pe_bm PySem.F.plainAttrs_str PySem.F.slot_str_rstrip PySem.F.type_str_rstrip mt_rstripChars (pe_ix ix_seq (pv 1) pe_int (fun _ _ => rfl)) (pa_cons pe_str pa_nil)))
    (pss_cons (ps_if (pt_cmpR op_eq (pv 2) pe_str (by rfl)) (pss_one (ps_set (i := 2) scPlain.nd rfl (Or.inl rfl) pe_str)) pss_nil)
    (pss_cons (ps_if (pt_cmpR op_eq (pv 3) pe_str (by rfl)) (pss_one (ps_ret (pv 2))) pss_nil)
    (pss_one (ps_ret (pe_op op_add_str (pe_op op_add_str (pv 2) pe_str) (pv 3)))))))), ?_⟩
  obtain ⟨p1, p2⟩ := part_num N
  obtain ⟨n1, n2⟩ := num_short N
  have l1 := noNull_len a
  have l2 := noTail_len d
  refine ⟨_, rfl, rfl, _, _, rfl, rfl, by decide +kernel, txt_line (by omega), fun p hp => ?_⟩
  rw [p1, p2]
  refine ⟨_, rfl, .inr (.inl ⟨p, _, 0, .str (tx a), rfl, rfl, SqT.of upd_same, atI_nat (j := 0) rfl, ?_⟩)⟩
  refine ⟨rfl, _, _, rfl, rfl, txt_line (by omega), ?_⟩
  rw [lstrip_tx]
  refine ⟨_, rfl, .inr (.inl ⟨p, _, 2, .str (tx d), rfl, rfl, SqT.of upd_same, atI_nat (j := 2) rfl, ?_⟩)⟩
  refine ⟨rfl, _, _, rfl, rfl, txt_line (by omega), ?_⟩
  rw [rstrip_tx]
  have sm : Same H (upd H p (.tup [.str (tx a), .str (Txt.partition (tx x) (Str.ofString ".")).2.1, .str (tx d)])) := same_new hp _
  have qs := q _ sm
  refine ⟨_, rfl, rfl, ?_⟩
  rw [empty_tx]
  have e48 : Str.ofString "0" = tx [48] := by decide +kernel
  have edot : Str.ofString "." = tx [46] := by decide +kernel
  have app : ∀ u v : Bytes, tx u ++ tx v = tx (u ++ v) := fun u v => ext_tl (by rw [tl_append]; show u.map UInt8.toNat ++ v.map UInt8.toNat = (u ++ v).map UInt8.toNat; rw [List.map_append])
  unfold SD.plain orNull at qs
  rw [e48, edot]
  by_cases e : noNull a = []
  · rw [if_pos e] at qs
    rw [decide_eq_true e]
    refine ⟨_, rfl, iteT ?_⟩
    refine ⟨_, rfl, rfl, ?_⟩
    rw [empty_tx]
    by_cases e2 : noTail d = []
    · rw [if_pos e2] at qs
      rw [decide_eq_true e2]
      exact ⟨_, rfl, iteT ⟨_, rfl, qs⟩⟩
    · rw [if_neg e2] at qs
      rw [decide_eq_false e2]
      refine ⟨_, rfl, iteF ⟨_, rfl, _, _, rfl, rfl, by rw [tx_len, tx_len, sizeLine_eq]; decide, _, rfl, _, _, rfl, rfl, ?_, ?_⟩⟩
      · rw [app, tx_len, tx_len, sizeLine_eq]
        show 2 + _ ≤ _
        omega
      · rw [app, app]
        exact qs
  · rw [if_neg e] at qs
    rw [decide_eq_false e]
    refine ⟨_, rfl, iteF ?_⟩
    refine ⟨_, rfl, rfl, ?_⟩
    rw [empty_tx]
    by_cases e2 : noTail d = []
    · rw [if_pos e2] at qs
      rw [decide_eq_true e2]
      exact ⟨_, rfl, iteT ⟨_, rfl, qs⟩⟩
    · rw [if_neg e2] at qs
      rw [decide_eq_false e2]
      refine ⟨_, rfl, iteF ⟨_, rfl, _, _, rfl, rfl, by rw [tx_len, tx_len, sizeLine_eq]; show _ + 1 ≤ _; omega, _, rfl, _, _, rfl, rfl, ?_, ?_⟩⟩
      · rw [app, tx_len, tx_len, sizeLine_eq, List.length_append]
        show _ + 1 + _ ≤ _
        omega
      · rw [app, app, List.append_assoc]
        exact qs
end
end SDP
set_option Elab.async false
/-! # Steps whose names tell of what they are -/
namespace SD
open SeamNum SeamPoly SeamPattern SeamText
def sSumN : Bytes := ascii "name in a sum"
def sPlaceN : Bytes := ascii "name of a place"
/-- is this goal a place -/
def isPl : Goal → Bool
  | .place => true
  | _ => false
/-- the program's steps of a sum, or of a place -/
def stK : Bool → E → List (Bytes × Bytes)
  | _, .num n k => [(sNumber, pointText n k)]
  | p, .name b => [(if p = true then sPlaceN else sSumN, b)]
  | _, .neg a => stK false a ++ [(sNeg, [])]
  | _, .op c a b => stK false a ++ stK false b ++ [([c], [])]
  | _, .call1 f a => stK ((takesOf f).getD 0 false) a ++ [(whatOf f, [])]
  | _, .call2 f a b => stK ((takesOf f).getD 0 false) a ++ stK ((takesOf f).getD 1 false) b ++ [(whatOf f, [])]
  | _, .call3 f a b c => stK ((takesOf f).getD 0 false) a ++ stK ((takesOf f).getD 1 false) b ++ stK ((takesOf f).getD 2 false) c ++ [(whatOf f, [])]
  | _, .call4 f a b c d => stK ((takesOf f).getD 0 false) a ++ stK ((takesOf f).getD 1 false) b ++ stK ((takesOf f).getD 2 false) c ++ stK ((takesOf f).getD 3 false) d ++ [(whatOf f, [])]
theorem stK_len : ∀ (p : Bool) (e : E), (stK p e).length = (stepsOf e).length
  | _, .num _ _ => rfl
  | _, .name _ => rfl
  | _, .neg a => by simp only [stK, stepsOf, List.length_append, stK_len _ a]
  | _, .op c a b => by simp only [stK, stepsOf, List.length_append, stK_len _ a, stK_len _ b]
  | _, .call1 f a => by simp only [stK, stepsOf, List.length_append, stK_len _ a]
  | _, .call2 f a b => by simp only [stK, stepsOf, List.length_append, stK_len _ a, stK_len _ b]
  | _, .call3 f a b c => by simp only [stK, stepsOf, List.length_append, stK_len _ a, stK_len _ b, stK_len _ c]
  | _, .call4 f a b c d => by simp only [stK, stepsOf, List.length_append, stK_len _ a, stK_len _ b, stK_len _ c, stK_len _ d]
/-- the steps of what stands between a word's parentheses -/
def stL : List Bool → List E → List (Bytes × Bytes)
  | _, [] => []
  | ks, e :: l => stK (ks.headD false) e ++ stL ks.tail l
theorem stL_snoc {e : E} : ∀ (ks : List Bool) (l : List E), stL ks (l ++ [e]) = stL ks l ++ stK ((ks.drop l.length).headD false) e
  | ks, [] => by simp [stL]
  | ks, a :: l => by
    show stK (ks.headD false) a ++ stL ks.tail (l ++ [e]) = stK (ks.headD false) a ++ stL ks.tail l ++ _
    rw [stL_snoc ks.tail l, List.append_assoc]
    congr 3
    cases ks with
    | nil => simp
    | cons k ks => rfl
theorem stL_at {e : E} {ks : List Bool} {l : List E} {p : Bool} {r : List Bool} (h : ks.drop l.length = p :: r) : stL ks (l ++ [e]) = stL ks l ++ stK p e := by
  rw [stL_snoc, h]
  rfl
theorem stK_called {p : Bool} {f : Nat} {l : List E} (h1 : l ≠ []) (h2 : l.length ≤ 4) : stK p (called f l) = stL (takesOf f) l ++ [(whatOf f, [])] := by
  have hd : ∀ ks : List Bool, ks.headD false = ks.getD 0 false := fun ks => by cases ks <;> rfl
  have tl : ∀ (ks : List Bool) (n : Nat), ks.tail.getD n false = ks.getD (n + 1) false := fun ks n => by cases ks <;> simp
  match l, h1, h2 with
  | [a], _, _ => simp only [called, stK, stL, hd, List.append_nil]
  | [a, b], _, _ => simp only [called, stK, stL, hd, tl, List.append_nil]
  | [a, b, c], _, _ => simp only [called, stK, stL, hd, tl, List.append_nil, List.append_assoc]
  | [a, b, c, d], _, _ => simp only [called, stK, stL, hd, tl, List.append_nil, List.append_assoc]
  | _ :: _ :: _ :: _ :: _ :: _, _, h => simp only [List.length_cons] at h; omega
end SD
set_option Elab.async false
set_option linter.all false
set_option maxRecDepth 100000
set_option maxHeartbeats 4000000
/-! # Sums and places -/
namespace SDP
open PySem PySem.Spec PyProof.Rows L2 SDX SD TL
open SeamNum (Bytes)
open SeamText (Toks Got isWord signs ownName Goal E)
def stepO (s : Bytes × Bytes) : HO := .tup [.str (tx s.1), .str (tx s.2)]
/-- the steps ss in the list at st -/
def StepL (H : Hp) (st : Addr) (ss : List (Bytes × Bytes)) : Prop := ∃ as : List Addr, H st = some (.lst (as.map V.ref)) ∧ Paired (fun a s => H a = some (stepO s)) as ss
theorem StepL.kp {M : List Addr} {H H' : Hp} {st : Addr} {ss : List (Bytes × Bytes)} (h : StepL H st ss) (k : Kp M H H') (hm : st ∉ M) : StepL H' st ss := by
  obtain ⟨as, h1, h2⟩ := h
  exact ⟨as, k _ _ h1 (.inl hm), paired_map (fun a t q => k _ _ q (.inr rfl)) h2⟩
theorem StepL.app {H : Hp} {st p : Addr} {as : List Addr} {ss : List (Bytes × Bytes)} {s : Bytes × Bytes} (h1 : H st = some (.lst (as.map V.ref))) (h2 : Paired (fun a s => H a = some (stepO s)) as ss) (hp : H p = none) :
    StepL (upd (upd H p (stepO s)) st (.lst (as.map V.ref ++ [.ref p]))) st (ss ++ [s]) := by
  have np : p ≠ st := fun z => by rw [z, h1] at hp; cases hp
  refine ⟨as ++ [p], by rw [upd_same, List.map_append]; rfl, paired_snoc (paired_map (fun a t q => ?_) h2) ?_⟩
  · have h3 : a ≠ st := fun z => by rw [z, h1] at q; cases q
    rw [upd_ne h3, upd_ne (ne_of_none q hp)]
    exact q
  · rw [upd_ne np, upd_same]
structure PSt (D : RdAd) (H : Hp) (r tl st : Addr) (pt : List PT) (bad : Option Nat) (len i : Nat) (t : Toks) (ss : List (Bytes × Bytes)) : Prop where
  R : RdAt D.C H r tl pt i
  hR : Rest bad len (pt.drop i) t
  hS : StepL H st ss
  ne : st ≠ tl
  hn : ss.length ≤ i
  p5 : pt.length ≤ 5000
def spGoal (D : RdAd) (g : Goal) (n : Nat) : Sp := fun vs H Q E => ∃ (r tl st : Addr) (pt : List PT) (bad : Option Nat) (len i : Nat) (t : Toks) (ss : List (Bytes × Bytes)) (d : Nat), vs = [.ref r, .int (d : Int), .ref st] ∧ PSt D H r tl st pt bad len i t ss ∧ d ≤ 6 ∧ 6 < d + n ∧
  (∀ e t' i' H', rd d g t = .ok (e, t') → Kp [r, st] H H' → RdAt D.C H' r tl pt i' → Rest bad len (pt.drop i') t' → StepL H' st (ss ++ stK (isPl g) e) → (stK (isPl g) e).length + i ≤ i' → Q .non H') ∧ (∀ o, rd d g t = .error o → RsO D bad len E o)
structure FAd where
  fS : Addr
  dS : FuncData
  fP : Addr
  dP : FuncData
  fF : Addr
  dF : FuncData
  fL : Addr
  dL : FuncData
  fA : Addr
  dA : FuncData
  fN : Addr
  dN : FuncData
structure RcT (K : PySem.W.Frag) (mg : Str → Option Value) (D : RdAd) (A : FAd) : Prop where
  T : RdC K mg D
  S : Fn1 K mg "read_sum" sSum ["reader", "depth", "steps"] A.fS A.dS
  P : Fn1 K mg "read_product" sProd ["reader", "depth", "steps"] A.fP A.dP
  F : Fn1 K mg "read_factor" sFac ["reader", "depth", "steps"] A.fF A.dF
  L : Fn1 K mg "read_place" sPl ["reader", "depth", "steps"] A.fL A.dL
  Pa : Fn1 K mg "read_parts" sParts ["reader", "what", "depth", "steps"] A.fA A.dA
  N : Fn1 K mg "plain_number" sPlain ["text"] A.fN A.dN
  DEEP : Gi mg "DEEPEST" 6
  NEG : Gs mg "NEGATIVE" sNeg
  SUMN : Gs mg "SUM_NAME" sSumN
  PLN : Gs mg "PLACE_NAME" sPlaceN
  PAIR : Gs mg "PAIR" (SeamNum.ascii "pair")
  SW : Gt K mg "SUM_WORDS" SUMB
  PW : Gt K mg "PLACE_WORDS" PLACEB
  enum : mg "enumerate" = none
theorem sign_text {bad : Option Nat} {len : Nat} {a : PT} {l : List PT} {t : Toks} {c : UInt8} (hc : signs.contains c = true) (h : Rest bad len (a :: l) t) (k : a.1 = [c]) : a.2.1 = [c] := by
  rcases h.kind with ⟨e, z⟩ | ⟨tok, t', e, z, tr, r⟩
  · rw [k] at z
    rcases z with z | z <;> (have q := congrArg List.length z; rw [List.length_singleton] at q; exact absurd q (by decide +kernel))
  · have q := sign_kind hc (z.symm.trans k)
    subst q
    exact tr.1
section
variable {P : Program} {w : World} {K : PySem.W.Frag} {mg : Str → Option Value} {base : Heap} {D : RdAd} {A : FAd}
theorem scProd : FnScope ["reader", "depth", "steps", "sign"] ["reader", "depth", "steps"] (defScope sProd) := ⟨rfl, rfl, rfl, by decide +kernel, rfl, by decide +kernel, by decide +kernel⟩
theorem ok_Prod (T : RcT K mg D A) {n L : Nat} (hL : 5 ≤ L) (hF : FnOk P w K mg base (L2N.CX P w) L A.fF A.dF ["reader", "depth", "steps"] (spGoal D .factor n)) : FnOk P w K mg base (L2N.CX P w) (L + 1) A.fP A.dP ["reader", "depth", "steps"] (spGoal D .product n) := by
  refine okN T.P.F scProd (fun vs H Q E h => ?_) (fun cdv A0 outer s H vs Q E hr h => ?_)
  · obtain ⟨r, tl, st, pt, bad, len, i, t, ss, d, rfl, _⟩ := h
    rfl
  obtain ⟨r, tl, st, pt, bad, len, i, t, ss, d, rfl, S, hd, hdn, good, rs⟩ := h
  have hr1 : Room 1 _ := hr.mono (by omega)
  have hr5 : Room 5 _ := hr.mono (by omega)
  have TR := T.T
  refine ⟨_, pss_cons (ps_expr (pe_call hF hr rfl T.F.m T.F.F.kp T.F.b .nil passN (pa_cons (pv 0) (pa_cons (pv 1) (pa_cons (pv 2) pa_nil)))))
    (pss_one (ps_while (passes_of rfl) (pt_cmpR op_in_seq (pe_meth0 (pv 0) TR.cl TR.Hh.m (ok_here TR) hr1 TR.Hh.b .nil pass0) (pe_tup (pa_cons pe_str (pa_cons pe_str pa_nil))) (by rfl))
      (pss_cons (ps_set (i := 3) scProd.nd rfl (Or.inl rfl) (pe_meth (pv 0) TR.cl TR.T.m (ok_take TR) hr5 TR.T.b .nil passN (pa_cons (pe_meth0 (pv 0) TR.cl TR.Hh.m (ok_here TR) hr1 TR.Hh.b .nil pass0) pa_nil)))
      (pss_cons (ps_expr (pe_call hF hr rfl T.F.m T.F.F.kp T.F.b .nil passN (pa_cons (pv 0) (pa_cons (pv 1) (pa_cons (pv 2) pa_nil)))))
      (pss_one (ps_expr (pe_bm PySem.F.plainAttrs_list PySem.F.slot_list_append PySem.F.type_list_append mt_append (pv 2) (pa_cons (pe_tup (pa_cons (pv 3) (pa_cons pe_str pa_nil))) pa_nil)))))))), ?_⟩
  have rst : r ≠ st := fun z => by
    obtain ⟨⟨dx, e⟩, _⟩ := S.R
    obtain ⟨as, e2, _⟩ := S.hS
    rw [z, e2] at e
    cases e
  refine ⟨_, rfl, _, rfl, _, rfl, r, tl, st, pt, bad, len, i, t, ss, d, rfl, S, hd, hdn, fun e t1 i1 H1 hx k1 R1 hR1 hS1 hl1 => ?_, fun o hx => rs o (by rw [rd_product, hx]; rfl)⟩
  refine ⟨fun m σ H' => ∃ (e : SeamText.E) (t1 : Toks) (i1 : Nat) (sg : Option V), σ = [some (.ref r), some (.int (d : Int)), some (.ref st), sg] ∧ Kp [r, st] H H' ∧ RdAt D.C H' r tl pt i1 ∧ Rest bad len (pt.drop i1) t1 ∧ StepL H' st (ss ++ stK false e) ∧ (stK false e).length + i ≤ i1 ∧
      rd d .product t = rd d (.productMore e) t1 ∧ m = pt.length - i1, ⟨_, e, t1, i1, none, rfl, k1, R1, hR1, hS1, hl1, by rw [rd_product, hx]; rfl, rfl⟩, ?_⟩
  clear hx k1 R1 hR1 hS1 hl1 e t1 i1 H1
  rintro m σ H1 ⟨e, t1, i1, sg, rfl, k1, R1, hR1, hS1, hl1, ex, rfl⟩
  obtain ⟨a, ea, hRa, hi⟩ := rest_get hR1
  obtain ⟨⟨dx, er⟩, _⟩ := id R1
  refine ⟨_, rfl, r, dx, _, rfl, er, rfl, r, tl, pt, i1, a, rfl, R1, ea, (by show 2 ≤ sizeLine; decide), fun p hp => ?_⟩
  have ex1 : Str.ofString "*" = tx [42] := by decide +kernel
  have ex2 : Str.ofString "/" = tx [47] := by decide +kernel
  have kA : Kp ([] : List Addr) H1 (upd H1 p (.tup [.str (Str.ofString "*"), .str (Str.ofString "/")])) := Kp.new hp
  refine ⟨p, _, rfl, .inr (SqT.of upd_same), rfl, rfl, ?_⟩
  rw [ex1, ex2] at kA ⊢
  have ein : inV (V.str (tx a.1)) [V.str (tx [42]), V.str (tx [47])] = ([[42], [47]] : List Bytes).contains a.1 := inV_tx a.1 [[42], [47]]
  generalize upd H1 p (.tup [.str (tx [42]), .str (tx [47])]) = H2 at kA ⊢
  have R2 := R1.kp kA (by simp) (by simp)
  have hS2 := hS1.kp kA (by simp)
  have k2 : Kp [r, st] H H2 := k1.trans (kA.mono (by simp))
  rw [if_neg Bool.false_ne_true, ein]
  obtain ⟨⟨dx2, er2⟩, _⟩ := id R2
  by_cases hc : ([[42], [47]] : List Bytes).contains a.1 = true
  · rw [hc]
    obtain ⟨c, hk, hcc⟩ : ∃ c : UInt8, a.1 = [c] ∧ (c = 42 ∨ c = 47) := by
      rw [List.contains_iff_mem] at hc
      simp only [List.mem_cons, List.not_mem_nil, or_false] at hc
      rcases hc with hc | hc
      · exact ⟨42, hc, .inl rfl⟩
      · exact ⟨47, hc, .inr rfl⟩
    have hsg : signs.contains c = true := by rcases hcc with q | q <;> rw [q] <;> decide +kernel
    have htx := sign_text hsg hRa hk
    obtain ⟨t2, hR2, ego⟩ := pmore_go (d := d) hcc hRa hk e
    refine ⟨_, rfl, iteT ⟨_, fun _ _ h => h, ?_⟩⟩
    refine ⟨_, rfl, r, dx2, _, rfl, er2, rfl, _, rfl, r, dx2, _, rfl, er2, rfl, r, tl, pt, i1, a, rfl, R2, ea, r, tl, pt, i1, a, a.1, rfl, R2, ea, fun _ H3 k3 R3 => ?_, fun h => absurd rfl h⟩
    have hS3 := hS2.kp k3 (by simp [rst.symm])
    have hlen : (ss ++ stK false e).length ≤ i1 := by
      have := S.hn
      rw [List.length_append]
      omega
    refine ⟨_, rfl, _, rfl, _, rfl, r, tl, st, pt, bad, len, i1 + 1, t2, ss ++ stK false e, d, rfl, ⟨R3, hR2, hS3, S.ne, by omega, S.p5⟩, hd, hdn, fun e2 t3 i2 H4 hx k4 R4 hR4 hS4 hl4 => ?_, fun o hx => rs o (by rw [ex, ego, hx]; rfl)⟩
    have hl4 : (stK false e2).length + _ ≤ i2 := hl4
    obtain ⟨as, hl, hp4⟩ := hS4
    have lenA : as.length = ((ss ++ stK false e) ++ stK false e2).length := Paired.length hp4
    obtain ⟨_, _, _, hi2⟩ := rest_get hR4
    refine ⟨_, rfl, .inl ⟨rfl, _, SqL.of hl⟩, _, rfl, (by show 2 ≤ sizeLine; decide), fun p2 hp2 => ?_⟩
    have np : st ≠ p2 := fun z => by rw [← z, hl] at hp2; cases hp2
    rw [htx]
    have eo : (.tup [.str (tx [c]), .str (Str.ofString "")] : HO) = stepO ([c], []) := rfl
    rw [eo]
    refine ⟨st, _, _, rfl, rfl, (by rw [upd_ne np]; exact hl), by rw [List.length_map, lenA, List.length_append, sizeLine_eq]; have := S.p5; omega, ?_⟩
    have k5 : Kp [r, st] H4 (upd (upd H4 p2 (stepO ([c], []))) st (.lst (as.map V.ref ++ [.ref p2]))) := (Kp.new hp2).trans (Kp.put (by rw [upd_ne np]; exact hl) rfl (by simp))
    have kS : Kp [st] H4 (upd (upd H4 p2 (stepO ([c], []))) st (.lst (as.map V.ref ++ [.ref p2]))) := (Kp.new hp2).trans (Kp.put (by rw [upd_ne np]; exact hl) rfl (by simp))
    refine ⟨_, ?_, .op c e e2, t3, i2, _, rfl, (k2.trans (k3.mono (by simp))).trans (k4.trans k5), R4.kp kS (by simp [rst]) (by simp [S.ne.symm]), hR4, ?_, ?_, ?_, rfl⟩
    · omega
    · have q := StepL.app (s := ([c], [])) hl hp4 hp2
      rw [List.append_assoc, List.append_assoc] at q
      show StepL _ st (ss ++ (stK false e ++ stK false e2 ++ [([c], [])]))
      rw [List.append_assoc]
      exact q
    · show (stK false e ++ stK false e2 ++ [([c], [])]).length + i ≤ i2
      rw [List.length_append, List.length_append, List.length_singleton]
      omega
    · rw [ex, ego, hx]
      rfl
  · rw [Bool.eq_false_iff.mpr hc]
    refine ⟨_, rfl, iteF ?_⟩
    refine good e t1 i1 H2 ?_ k2 R2 hR1 hS2 hl1
    rw [ex]
    refine pmore_stop hRa (fun c hc2 z => hc ?_) e
    rw [List.contains_iff_mem, z]
    simp only [List.mem_cons, List.not_mem_nil, or_false] at hc2 ⊢
    rcases hc2 with q | q
    · exact .inl (by rw [q])
    · exact .inr (by rw [q])
theorem scSum : FnScope ["reader", "depth", "steps", "sign"] ["reader", "depth", "steps"] (defScope sSum) := ⟨rfl, rfl, rfl, by decide +kernel, rfl, by decide +kernel, by decide +kernel⟩
theorem ok_Sum (T : RcT K mg D A) {n L : Nat} (hL : 5 ≤ L) (hF : FnOk P w K mg base (L2N.CX P w) L A.fP A.dP ["reader", "depth", "steps"] (spGoal D .product n)) : FnOk P w K mg base (L2N.CX P w) (L + 1) A.fS A.dS ["reader", "depth", "steps"] (spGoal D .sum n) := by
  refine okN T.S.F scSum (fun vs H Q E h => ?_) (fun cdv A0 outer s H vs Q E hr h => ?_)
  · obtain ⟨r, tl, st, pt, bad, len, i, t, ss, d, rfl, _⟩ := h
    rfl
  obtain ⟨r, tl, st, pt, bad, len, i, t, ss, d, rfl, S, hd, hdn, good, rs⟩ := h
  have hr1 : Room 1 _ := hr.mono (by omega)
  have hr5 : Room 5 _ := hr.mono (by omega)
  have TR := T.T
  refine ⟨_, pss_cons (ps_expr (pe_call hF hr rfl T.P.m T.P.F.kp T.P.b .nil passN (pa_cons (pv 0) (pa_cons (pv 1) (pa_cons (pv 2) pa_nil)))))
    (pss_one (ps_while (passes_of rfl) (pt_cmpR op_in_seq (pe_meth0 (pv 0) TR.cl TR.Hh.m (ok_here TR) hr1 TR.Hh.b .nil pass0) (pe_tup (pa_cons pe_str (pa_cons pe_str pa_nil))) (by rfl))
      (pss_cons (ps_set (i := 3) scSum.nd rfl (Or.inl rfl) (pe_meth (pv 0) TR.cl TR.T.m (ok_take TR) hr5 TR.T.b .nil passN (pa_cons (pe_meth0 (pv 0) TR.cl TR.Hh.m (ok_here TR) hr1 TR.Hh.b .nil pass0) pa_nil)))
      (pss_cons (ps_expr (pe_call hF hr rfl T.P.m T.P.F.kp T.P.b .nil passN (pa_cons (pv 0) (pa_cons (pv 1) (pa_cons (pv 2) pa_nil)))))
      (pss_one (ps_expr (pe_bm PySem.F.plainAttrs_list PySem.F.slot_list_append PySem.F.type_list_append mt_append (pv 2) (pa_cons (pe_tup (pa_cons (pv 3) (pa_cons pe_str pa_nil))) pa_nil)))))))), ?_⟩
  have rst : r ≠ st := fun z => by
    obtain ⟨⟨dx, e⟩, _⟩ := S.R
    obtain ⟨as, e2, _⟩ := S.hS
    rw [z, e2] at e
    cases e
  refine ⟨_, rfl, _, rfl, _, rfl, r, tl, st, pt, bad, len, i, t, ss, d, rfl, S, hd, hdn, fun e t1 i1 H1 hx k1 R1 hR1 hS1 hl1 => ?_, fun o hx => rs o (by rw [rd_sum, hx]; rfl)⟩
  refine ⟨fun m σ H' => ∃ (e : SeamText.E) (t1 : Toks) (i1 : Nat) (sg : Option V), σ = [some (.ref r), some (.int (d : Int)), some (.ref st), sg] ∧ Kp [r, st] H H' ∧ RdAt D.C H' r tl pt i1 ∧ Rest bad len (pt.drop i1) t1 ∧ StepL H' st (ss ++ stK false e) ∧ (stK false e).length + i ≤ i1 ∧
      rd d .sum t = rd d (.sumMore e) t1 ∧ m = pt.length - i1, ⟨_, e, t1, i1, none, rfl, k1, R1, hR1, hS1, hl1, by rw [rd_sum, hx]; rfl, rfl⟩, ?_⟩
  clear hx k1 R1 hR1 hS1 hl1 e t1 i1 H1
  rintro m σ H1 ⟨e, t1, i1, sg, rfl, k1, R1, hR1, hS1, hl1, ex, rfl⟩
  obtain ⟨a, ea, hRa, hi⟩ := rest_get hR1
  obtain ⟨⟨dx, er⟩, _⟩ := id R1
  refine ⟨_, rfl, r, dx, _, rfl, er, rfl, r, tl, pt, i1, a, rfl, R1, ea, (by show 2 ≤ sizeLine; decide), fun p hp => ?_⟩
  have ex1 : Str.ofString "+" = tx [43] := by decide +kernel
  have ex2 : Str.ofString "-" = tx [45] := by decide +kernel
  have kA : Kp ([] : List Addr) H1 (upd H1 p (.tup [.str (Str.ofString "+"), .str (Str.ofString "-")])) := Kp.new hp
  refine ⟨p, _, rfl, .inr (SqT.of upd_same), rfl, rfl, ?_⟩
  rw [ex1, ex2] at kA ⊢
  have ein : inV (V.str (tx a.1)) [V.str (tx [43]), V.str (tx [45])] = ([[43], [45]] : List Bytes).contains a.1 := inV_tx a.1 [[43], [45]]
  generalize upd H1 p (.tup [.str (tx [43]), .str (tx [45])]) = H2 at kA ⊢
  have R2 := R1.kp kA (by simp) (by simp)
  have hS2 := hS1.kp kA (by simp)
  have k2 : Kp [r, st] H H2 := k1.trans (kA.mono (by simp))
  rw [if_neg Bool.false_ne_true, ein]
  obtain ⟨⟨dx2, er2⟩, _⟩ := id R2
  by_cases hc : ([[43], [45]] : List Bytes).contains a.1 = true
  · rw [hc]
    obtain ⟨c, hk, hcc⟩ : ∃ c : UInt8, a.1 = [c] ∧ (c = 43 ∨ c = 45) := by
      rw [List.contains_iff_mem] at hc
      simp only [List.mem_cons, List.not_mem_nil, or_false] at hc
      rcases hc with hc | hc
      · exact ⟨43, hc, .inl rfl⟩
      · exact ⟨45, hc, .inr rfl⟩
    have hsg : signs.contains c = true := by rcases hcc with q | q <;> rw [q] <;> decide +kernel
    have htx := sign_text hsg hRa hk
    obtain ⟨t2, hR2, ego⟩ := more_go (d := d) hcc hRa hk e
    refine ⟨_, rfl, iteT ⟨_, fun _ _ h => h, ?_⟩⟩
    refine ⟨_, rfl, r, dx2, _, rfl, er2, rfl, _, rfl, r, dx2, _, rfl, er2, rfl, r, tl, pt, i1, a, rfl, R2, ea, r, tl, pt, i1, a, a.1, rfl, R2, ea, fun _ H3 k3 R3 => ?_, fun h => absurd rfl h⟩
    have hS3 := hS2.kp k3 (by simp [rst.symm])
    have hlen : (ss ++ stK false e).length ≤ i1 := by
      have := S.hn
      rw [List.length_append]
      omega
    refine ⟨_, rfl, _, rfl, _, rfl, r, tl, st, pt, bad, len, i1 + 1, t2, ss ++ stK false e, d, rfl, ⟨R3, hR2, hS3, S.ne, by omega, S.p5⟩, hd, hdn, fun e2 t3 i2 H4 hx k4 R4 hR4 hS4 hl4 => ?_, fun o hx => rs o (by rw [ex, ego, hx]; rfl)⟩
    have hl4 : (stK false e2).length + _ ≤ i2 := hl4
    obtain ⟨as, hl, hp4⟩ := hS4
    have lenA : as.length = ((ss ++ stK false e) ++ stK false e2).length := Paired.length hp4
    obtain ⟨_, _, _, hi2⟩ := rest_get hR4
    refine ⟨_, rfl, .inl ⟨rfl, _, SqL.of hl⟩, _, rfl, (by show 2 ≤ sizeLine; decide), fun p2 hp2 => ?_⟩
    have np : st ≠ p2 := fun z => by rw [← z, hl] at hp2; cases hp2
    rw [htx]
    have eo : (.tup [.str (tx [c]), .str (Str.ofString "")] : HO) = stepO ([c], []) := rfl
    rw [eo]
    refine ⟨st, _, _, rfl, rfl, (by rw [upd_ne np]; exact hl), by rw [List.length_map, lenA, List.length_append, sizeLine_eq]; have := S.p5; omega, ?_⟩
    have k5 : Kp [r, st] H4 (upd (upd H4 p2 (stepO ([c], []))) st (.lst (as.map V.ref ++ [.ref p2]))) := (Kp.new hp2).trans (Kp.put (by rw [upd_ne np]; exact hl) rfl (by simp))
    have kS : Kp [st] H4 (upd (upd H4 p2 (stepO ([c], []))) st (.lst (as.map V.ref ++ [.ref p2]))) := (Kp.new hp2).trans (Kp.put (by rw [upd_ne np]; exact hl) rfl (by simp))
    refine ⟨_, ?_, .op c e e2, t3, i2, _, rfl, (k2.trans (k3.mono (by simp))).trans (k4.trans k5), R4.kp kS (by simp [rst]) (by simp [S.ne.symm]), hR4, ?_, ?_, ?_, rfl⟩
    · omega
    · have q := StepL.app (s := ([c], [])) hl hp4 hp2
      rw [List.append_assoc, List.append_assoc] at q
      show StepL _ st (ss ++ (stK false e ++ stK false e2 ++ [([c], [])]))
      rw [List.append_assoc]
      exact q
    · show (stK false e ++ stK false e2 ++ [([c], [])]).length + i ≤ i2
      rw [List.length_append, List.length_append, List.length_singleton]
      omega
    · rw [ex, ego, hx]
      rfl
  · rw [Bool.eq_false_iff.mpr hc]
    refine ⟨_, rfl, iteF ?_⟩
    refine good e t1 i1 H2 ?_ k2 R2 hR1 hS2 hl1
    rw [ex]
    refine more_stop hRa (fun c hc2 z => hc ?_) e
    rw [List.contains_iff_mem, z]
    simp only [List.mem_cons, List.not_mem_nil, or_false] at hc2 ⊢
    rcases hc2 with q | q
    · exact .inl (by rw [q])
    · exact .inr (by rw [q])
end
end SDP
set_option Elab.async false
set_option linter.all false
set_option maxRecDepth 100000
set_option maxHeartbeats 4000000
/-! # enumerate of a tuple -/
namespace PySem
open Sem (wp)
set_option maxHeartbeats 1000000 in
theorem meets_enum1 {v : Value} {o : Obj} {H : Heap → Prop} (B : Begins v o H) :
    Meets (Builtin.«enumerate.__new__» ⟨[.type "enumerate", v], []⟩) (fun _ R s => H s.heap ∧
      R (.ok (.ret (.ref (s.heap.push o).objs.size))) { s with heap := (s.heap.push o).push { cls := .type "enumerate", data := .fields #[.none, .bool false, .ref s.heap.objs.size, rawInt 0, .none, .none] } }) :=
  .of_wp fun prog w A R s h => by
    obtain ⟨hp, g, d, tk, os⟩ := s; obtain ⟨h1, h⟩ := h
    have hsub := sub_enumerate
    have q1 : ∀ {A' : Around} {E : Value → Shared → Prop} {Q : Value → Shared → Prop}, Q (.ref hp.objs.size) ⟨hp.push o, g, d, tk, os⟩ → wpAny (model prog w) A' (pyIter v) Q E ⟨hp, g, d, tk, os⟩ :=
      fun q => B.iter prog w _ _ ⟨hp, g, d, tk, os⟩ _ h1 q
    wp_walk using q1
    refine wpAny_stack_any fun st => wpAny_pure ?_
    split
    · rename_i c _ _ _ _ _
      cases (c == Value.type "enumerate")
      · wp_walk using q1
        exact ⟨_, rfl, h⟩
      · wp_walk using q1
        exact ⟨_, rfl, h⟩
    · wp_walk using q1
      exact ⟨_, rfl, h⟩
section
variable {prog : Program} {w : World} {A : Around} {E : Value → Shared → Prop} {s : Shared}
theorem call_enum1 {v : Value} {o : Obj} {H : Heap → Prop} {Q : Value → Shared → Prop} (B : Begins v o H) (h1 : H s.heap)
    (h : ∀ h', IsEnum h' (s.heap.objs.size + 1) s.heap.objs.size 0 .none → h'.get? s.heap.objs.size = some o → h'.objs.size = s.heap.objs.size + 2 →
      (∀ b o, s.heap.get? b = some o → h'.get? b = some o) → Q (.ref (s.heap.objs.size + 1)) { s with heap := h' }) :
    wpAny (model prog w) A (call (.type "enumerate") [v]) Q E s := by
  refine callType_new F.called_enumerate (by decide) (F.typeCall_enumerate_1 _) (F.newCall_enumerate_1 _) (fun obj => F.args_object_init_2 obj _) F.entry_enumerate_new
    (meets_enum1 B) ⟨h1, ?_⟩
  have hz : (s.heap.push o).objs.size = s.heap.objs.size + 1 := Heap.size_push ..
  show _ ∧ _
  rw [hz]
  have he : IsEnum ((s.heap.push o).push { cls := .type "enumerate", data := .fields #[.none, .bool false, .ref s.heap.objs.size, rawInt 0, .none, .none] }) (s.heap.objs.size + 1) s.heap.objs.size 0 .none := by
    have := Heap.get?_push_size (s.heap.push o) (o := { cls := .type "enumerate", data := .fields #[.none, .bool false, .ref s.heap.objs.size, rawInt 0, .none, .none] }) rfl
    rw [hz] at this; exact this
  refine ⟨⟨_, he, rfl⟩, h _ he (Heap.get?_push_of_some _ (Heap.get?_push_size _ B.free)) (by rw [Heap.size_push, hz]) fun b o x => Heap.get?_push_of_some _ (Heap.get?_push_of_some _ x)⟩
end
end PySem
namespace SDX
open PySem PySem.Spec PyProof.Rows L2
/-- the tuple at a, each item in a new pair -/
def IteT (K : PySem.W.Frag) (a : Addr) : It :=
  ⟨fun i H => ∃ (xs : List V) (x : V), SqT K H a xs ∧ xs[i]? = some x, fun i H v H' => ∃ T x, v = .ref T ∧ H T = none ∧ H' = upd H T (.tup [.int (i : Nat), x]) ∧ ∀ xs, SqT K H a xs → xs[i]? = some x, fun i H => ∃ xs : List V, SqT K H a xs ∧ xs.length = i⟩
theorem turn_enumT {P : Program} {w : World} {K : PySem.W.Frag} {elts : List Expr} {kk : Nat} {tpos : Pos} (a e it : Addr) :
    Turn P w K (.Tuple elts kk tpos) (IteT K a) [e, it] e (fun i h => (∃ old, IsEnum h e it ((i : Nat) : Int) old) ∧ h.IsTupleIter it a i ∧ e ≠ it) where
  mem := by simp
  obj := fun i h st b hb => by
    obtain ⟨⟨old, he⟩, ⟨o, ho, hc, hd⟩, _⟩ := st
    have e' : b = e ∨ b = it := by simpa using hb
    rcases e' with z | z
    · rw [z]; exact ⟨_, he, fun v q => nomatch q⟩
    · rw [z]; exact ⟨o, ho, fun v q => by rw [hd] at q; cases q⟩
  keep := fun i h h' st k => let ⟨⟨old, he⟩, hi, hne⟩ := st; ⟨⟨old, k e (by simp) _ he⟩, hi.at fun o q => k it (by simp) o q, hne⟩
  item := by
    intro X hP hw hK hc i pins s σ H E I hf st hg
    subst hP hw hK
    obtain ⟨⟨old, he⟩, hit, hne⟩ := st
    obtain ⟨xs, x, hq, hx⟩ := hg
    obtain ⟨its, rv, p, hz⟩ := I.tuple hq
    have p' : s.heap.IsTuple a its.toArray := p
    obtain ⟨u, hu, ru⟩ := rv.get hx
    have hel : e < s.heap.objs.size := Heap.lt_size he
    have hil : it < s.heap.objs.size := by obtain ⟨_, q, _⟩ := hit; exact Heap.lt_size q
    have nea : e ≠ a := fun z => by
      obtain ⟨o, ho, _, n, hd⟩ := p'
      rw [← z, show s.heap.get? e = _ from he] at ho
      cases ho
      cases hd
    have nia : a ≠ it := fun z => by
      obtain ⟨o, ho, _, n, hd⟩ := p'
      obtain ⟨o2, ho2, _, hd2⟩ := hit
      rw [z, ho2] at ho
      cases ho
      rw [hd2] at hd
      cases hd
    have hi : i < its.toArray.size := by
      have q := List.getElem?_eq_some_iff.mp hu
      obtain ⟨q, _⟩ := q
      simpa using q
    refine wpAny_pyNext_enum_itemD (Draws.tuple (A := X.A.in1) (I.ok.hd hc) it a nia its.toArray) he ⟨hit, p'⟩ hi hne (by simp [hne, nea]) fun y h' tk hP ho hst hT hsz hk => ?_
    have hy : y = u := by
      have q1 : its[i]? = some y := by simpa using hP
      rw [q1] at hu
      cases hu
      rfl
    subst hy
    obtain ⟨hit', _⟩ := hst
    refine ⟨_, rfl, wpAny_letOwnedTupleGo_enum (s := { s with heap := h', toks := tk + 1 }) ho fun h'' he' sb => ?_⟩
    have hT2 : h''.get? s.heap.objs.size = some { cls := .type "tuple", data := .seq #[.int i tk, y] } := (sb.2 _ (Nat.ne_of_gt hel)).trans hT
    have new : ObjOk X.prog X.w (upd H s.heap.objs.size (.tup [.int (i : Nat), x])) h'' s.heap.objs.size (.tup [.int (i : Nat), x]) :=
      ⟨by show 2 ≤ sizeLine; decide, [.int i tk, y], .cons ⟨_, rfl⟩ (.cons ru .nil), ⟨_, hT2, rfl, _, rfl⟩⟩
    have I1 : Inv X pins σ (upd H s.heap.objs.size (.tup [.int (i : Nat), x])) { s with heap := h'', toks := tk + 1 } :=
      I.turnedNew (ch := [e, it]) (fun b ob hb q => (sb.2 b (fun z => hb (by simp [z]))).trans (hk b ob (fun z => hb (by simp [z])) (fun z => hb (by simp [z])) q)) hf (Nat.le_refl _) new
    refine ⟨.ref s.heap.objs.size, _, I1, rfl, ⟨_, x, rfl, I.hok.fresh (Nat.le_refl _), rfl, fun ys hy => by rw [I.tuple_inj hy hq]; exact hx⟩, ⟨⟨y, ?_⟩, hit'.at fun o q => (sb.2 it (Ne.symm hne)).trans q, hne⟩, fun b hb => ?_⟩
    · have e1 : ((i + 1 : Nat) : Int) = (i : Int) + 1 := by omega
      rw [e1]; exact he'
    · have hb' : b < s.heap.objs.size := by
        have e' : b = e ∨ b = it := by simpa using hb
        rcases e' with z | z
        · rw [z]; exact hel
        · rw [z]; exact hil
      rw [upd_ne (Nat.ne_of_lt hb')]
      exact (hf b hb).1
  done := by
    intro X hP hw hK hc i pins s σ H E I hf st hg
    subst hP hw hK
    obtain ⟨⟨old, he⟩, hit, hne⟩ := st
    obtain ⟨xs, hq, hx⟩ := hg
    obtain ⟨its, rv, p, hz⟩ := I.tuple hq
    have p' : s.heap.IsTuple a its.toArray := p
    obtain ⟨f0, f1, f2, f3, f4, f5⟩ := hf it (by simp)
    have hl := rv.length
    have nia : a ≠ it := fun z => by
      obtain ⟨o, ho, _, n, hd⟩ := p'
      obtain ⟨o2, ho2, _, hd2⟩ := hit
      rw [z, ho2] at ho
      cases ho
      rw [hd2] at hd
      cases hd
    have ei : i = its.toArray.size := by
      simp
      omega
    subst ei
    exact wpAny_pyNext_enum_endD (Draws.tuple (A := X.A.in1) (I.ok.hd hc) it a nia its.toArray) he ⟨hit, p'⟩ fun h' eb => ⟨rfl, I.turned (t' := s.toks) (fun b o hb q => eb b o hb q) f0 f1 f3 f4 f5⟩
  self := fun A i s Q E st h => let ⟨⟨_, he⟩, _⟩ := st; wpAny_pyIter_enum he h
def iEnumT (K : PySem.W.Frag) (ta : TA) : TI := fun σ H R => ta σ H fun vs H1 => ∃ a xs, vs = [.ref a] ∧ SqT K H1 a xs ∧ R (IteT K a) H1
theorem pi_enumT {X : Cx} {e : Expr} {ta : TA} {p pos tpos : Pos} {elts : List Expr} {kk : Nat} (hg : Gl X "enumerate") (hm : X.mg "enumerate" = none) (ha : PA X [e] ta) (hs : starEach [e] X.env = [(false, eval e X.env)] := by rfl) :
    PI X (.Tuple elts kk tpos) (.Call (.Name "enumerate" p) [e] [] pos) (iEnumT X.K ta) := by
  refine ⟨fun pins s σ H R I h => ?_⟩
  refine Call_ (ld_blt I hg hm boot_enumerate (PyProof.Rows.callWith_type1 (thn (ha.run pos pins s σ H _ I h) fun us s1 ⟨vs, H1, I1, r1, q1⟩ => ?_) hs rfl))
  obtain ⟨a, xs, ex, hq, q⟩ := q1
  subst ex
  cases r1 with
  | cons r rr =>
    cases rr
    cases r
    obtain ⟨its, rv, p', hz⟩ := I1.tuple hq
    have p2 : s1.heap.IsTuple a its.toArray := p'
    refine call_enum1 (begins_tuple a its.toArray) p2 fun h' he hit hsz hk => wpAny_pyIter_enum he ?_
    have I2 : Inv X pins σ H1 { s1 with heap := h' } := I1.kept (t' := s1.toks) hk
    refine ⟨s1.heap.objs.size + 1, [s1.heap.objs.size + 1, s1.heap.objs.size], _, _, H1, rfl, I2, turn_enumT a (s1.heap.objs.size + 1) s1.heap.objs.size, ⟨⟨.none, he⟩, ⟨_, hit, rfl, rfl⟩, Nat.succ_ne_self _⟩, fun b hb => ?_, q⟩
    have e' : b = s1.heap.objs.size + 1 ∨ b = s1.heap.objs.size := by simpa using hb
    have hle : s1.heap.objs.size ≤ b := by
      rcases e' with z | z
      · rw [z]; exact Nat.le_add_right _ _
      · rw [z]; exact Nat.le_refl _
    exact I1.fpOk hle (I1.hok.fresh hle)
theorem walk_enumT {K : PySem.W.Frag} {a : Addr} {xs : List V} : Walk (IteT K a) xs.length (fun H => SqT K H a xs) (YPair (fun i => some (.int (i : Nat))) (fun i => xs[i]?)) := by
  refine ⟨fun i _ hi q => ⟨xs, xs[i], q, by simp [hi]⟩, fun _ q => ⟨xs, q, rfl⟩, fun i H v H' _ q y => ?_⟩
  obtain ⟨T, x, h1, h2, h3, h4⟩ := y
  exact ⟨T, .int (i : Nat), x, h1, h2, h3, rfl, h4 xs q⟩
end SDX
set_option Elab.async false
set_option linter.all false
set_option maxRecDepth 100000
set_option maxHeartbeats 4000000
namespace SDP
open PySem PySem.Spec PyProof.Rows L2 SDX SD TL
open SeamNum (Bytes)
open SeamText (Toks Got isWord signs ownName Goal takesOf)
def partB (p : Bool) : Bytes := if p = true then SeamNum.ascii "place" else SeamNum.ascii "sum"
structure PartsD (K : PySem.W.Frag) (w : World) (mg : Str → Option Value) : Prop where
  is : ∃ pa, mg "PARTS" = some (.ref pa) ∧ ∀ g, g < 11 → ∃ b, KDct K w pa (tx (whatOf g)) (.ref b) ∧ ∀ H, SqT K H b ((takesOf g).map fun p => V.str (tx (partB p)))
structure PartsK (K : PySem.W.Frag) (w : World) (mg : Str → Option Value) (pa : Addr) (es : Array DictEntry) (n : Nat) : Prop where
  g : mg "PARTS" = some (.ref pa)
  kd : L2.KDict K w pa es n
  at_ : ∀ g, g < 11 → ∃ b, PySem.W.nsIn K pa (tx (whatOf g)) = some (some (.ref b)) ∧ ∀ H, SqT K H b ((takesOf g).map fun p => V.str (tx (partB p)))
  no : ∀ c : UInt8, (c = 43 ∨ c = 45 ∨ c = 42 ∨ c = 47) → PySem.W.nsIn K pa (tx [c]) = some none
def spParts (D : RdAd) (n : Nat) : Sp := fun vs H Q E => ∃ (r tl st : Addr) (pt : List PT) (bad : Option Nat) (len i : Nat) (t : Toks) (ss : List (Bytes × Bytes)) (d g : Nat), vs = [.ref r, .str (tx (whatOf g)), .int (d : Int), .ref st] ∧ PSt D H r tl st pt bad len i t ss ∧ d < 6 ∧ 6 < d + n ∧ g < 11 ∧
  (∀ e t' i' H', prt d g t = .ok (e, t') → Kp [r, st] H H' → RdAt D.C H' r tl pt i' → Rest bad len (pt.drop i') t' → StepL H' st (ss ++ stK (decide (4 ≤ g)) e) → (stK (decide (4 ≤ g)) e).length + i ≤ i' → Q .non H') ∧ (∀ o, prt d g t = .error o → RsO D bad len E o)
theorem sp_take {D : RdAd} {vs : List V} {H : Hp} {Q : VK} {E : XK} {r tl : Addr} {pt : List PT} {bad : Option Nat} {len i : Nat} {t : Toks} {k : Bytes} {α : Type} {res : Got α} {v : PT → α} (R : RdAt D.C H r tl pt i) (hR : Rest bad len (pt.drop i) t)
    (one : ∀ a, Rest bad len (a :: pt.drop (i + 1)) t → One bad len a (pt.drop (i + 1)) (a.1 = k) res (v a)) (hv : vs = [.ref r, .str (tx k)])
    (good : ∀ a t' H', pt[i]? = some a → Rest bad len (a :: pt.drop (i + 1)) t → res = .ok (v a, t') → Rest bad len (pt.drop (i + 1)) t' → Kp [r] H H' → RdAt D.C H' r tl pt (i + 1) → Q (.str (tx a.2.1)) H') (rs : ∀ o, res = .error o → RsO D bad len E o) : spTake D vs H Q E := by
  obtain ⟨a, ea, hRa, hi⟩ := rest_get hR
  refine ⟨r, tl, pt, i, a, k, hv, R, ea, fun hk H' k1 R1 => ?_, fun hk => ?_⟩
  · rcases one a hRa with ⟨_, t', e, r'⟩ | ⟨c, _⟩
    · exact good a t' H' ea hRa e r' k1 R1
    · exact absurd hk c
  · rcases one a hRa with ⟨c, _⟩ | ⟨_, o, e, eo⟩
    · exact absurd c hk
    · exact RsO.of eo (rs o e)
theorem app_done {D : RdAd} {H H3 : Hp} {r tl st p : Addr} {pt : List PT} {i : Nat} {as : List Addr} {ss : List (Bytes × Bytes)} (s : Bytes × Bytes) (k : Kp [r, st] H H3) (R3 : RdAt D.C H3 r tl pt i) (ne : st ≠ tl) (hl : H3 st = some (.lst (as.map V.ref))) (hp : Paired (fun a s => H3 a = some (stepO s)) as ss)
    (hp2 : H3 p = none) : (upd H3 p (stepO s)) st = some (.lst (as.map V.ref)) ∧ Kp [r, st] H (upd (upd H3 p (stepO s)) st (.lst (as.map V.ref ++ [.ref p]))) ∧ RdAt D.C (upd (upd H3 p (stepO s)) st (.lst (as.map V.ref ++ [.ref p]))) r tl pt i ∧ StepL (upd (upd H3 p (stepO s)) st (.lst (as.map V.ref ++ [.ref p]))) st (ss ++ [s]) := by
  have np : st ≠ p := fun z => by rw [← z, hl] at hp2; cases hp2
  have rst : r ≠ st := fun z => by
    obtain ⟨⟨dx, e⟩, _⟩ := R3
    rw [z, hl] at e
    cases e
  have h1 : (upd H3 p (stepO s)) st = some (.lst (as.map V.ref)) := by rw [upd_ne np]; exact hl
  have kS : Kp [st] H3 (upd (upd H3 p (stepO s)) st (.lst (as.map V.ref ++ [.ref p]))) := (Kp.new hp2).trans (Kp.put h1 rfl (by simp))
  exact ⟨h1, k.trans (kS.mono (by simp)), R3.kp kS (by simp [rst]) (by simp [ne.symm]), StepL.app hl hp hp2⟩
theorem PSt.len {D : RdAd} {H : Hp} {r tl st : Addr} {pt : List PT} {bad : Option Nat} {len i : Nat} {t : Toks} {ss : List (Bytes × Bytes)} (S : PSt D H r tl st pt bad len i t ss) {as : List Addr} {H3 : Hp} {ss3 : List (Bytes × Bytes)} (h : Paired (fun a s => H3 a = some (stepO s)) as ss3) (hl : ss3.length ≤ 5000) : (as.map V.ref).length < sizeLine := by
  have e : as.length = ss3.length := Paired.length h
  rw [List.length_map, e, sizeLine_eq]
  omega
theorem PSt.rst {D : RdAd} {H : Hp} {r tl st : Addr} {pt : List PT} {bad : Option Nat} {len i : Nat} {t : Toks} {ss : List (Bytes × Bytes)} (S : PSt D H r tl st pt bad len i t ss) : r ≠ st := fun z => by
  obtain ⟨⟨dx, e⟩, _⟩ := S.R
  obtain ⟨as, e2, _⟩ := S.hS
  rw [z, e2] at e
  cases e
theorem what_len : ∀ g : Fin 11, (takesOf g.val).length ≤ 4 ∧ takesOf g.val ≠ [] := by decide +kernel
section
variable {P : Program} {w : World} {K : PySem.W.Frag} {mg : Str → Option Value} {base : Heap} {D : RdAd} {A : FAd}
theorem scParts : FnScope ["reader", "what", "depth", "steps", "index", "part"] ["reader", "what", "depth", "steps"] (defScope sParts) := ⟨rfl, rfl, rfl, by decide +kernel, rfl, by decide +kernel, by decide +kernel⟩
theorem part_sum (p : Bool) : decide (V.str (tx (partB p)) = V.str (Str.ofString "sum")) = !p := by
  have e : Str.ofString "sum" = tx (SeamNum.ascii "sum") := by decide +kernel
  rw [e, dec_str]
  cases p <;> decide +kernel
theorem ok_parts (T : RcT K mg D A) (TD : PartsD K w mg) {n L : Nat} (hL : 5 ≤ L) (hS : FnOk P w K mg base (L2N.CX P w) L A.fS A.dS ["reader", "depth", "steps"] (spGoal D .sum n)) (hPl : FnOk P w K mg base (L2N.CX P w) L A.fL A.dL ["reader", "depth", "steps"] (spGoal D .place n)) :
    FnOk P w K mg base (L2N.CX P w) (L + 1) A.fA A.dA ["reader", "what", "depth", "steps"] (spParts D (n + 1)) := by
  refine okN T.Pa.F scParts (fun vs H Q E h => ?_) (fun cdv A0 outer s H vs Q E hr h => ?_)
  · obtain ⟨r, tl, st, pt, bad, len, i, t, ss, d, g, rfl, _⟩ := h
    rfl
  obtain ⟨r, tl, st, pt, bad, len, i, t, ss, d, g, rfl, S, hd, hdn, hg, good, rs⟩ := h
  have hr5 : Room 5 _ := hr.mono (by omega)
  have TR := T.T
  obtain ⟨pa, gP, hP⟩ := TD.is
  obtain ⟨b, kd, hb⟩ := hP g hg
  refine ⟨_, pss_cons (ps_expr (pe_meth (pv 0) TR.cl TR.T.m (ok_take TR) hr5 TR.T.b .nil passN (pa_cons pe_str pa_nil)))
    (pss_cons (ps_for (passes_of rfl) rfl (pi_enumT rfl T.enum (pa_cons (pe_ix ix_kdict (pe_gr rfl gP) (pv 1) (fun _ _ => rfl)) pa_nil))
        (pg_tup rfl (pgs_cons (pg_name (i := 4) scParts.nd rfl (Or.inl rfl)) (pgs_cons (pg_name (i := 5) scParts.nd rfl (Or.inl rfl)) pgs_nil)))
      (pss_cons (ps_if (pt_cmpR op_gt (pv 4) pe_int (nomark _)) (pss_one (ps_expr (pe_meth (pv 0) TR.cl TR.T.m (ok_take TR) hr5 TR.T.b .nil passN (pa_cons pe_str pa_nil)))) pss_nil)
      (pss_one (ps_if (pt_cmpR op_eq (pv 5) pe_str (by rfl))
        (pss_one (ps_expr (pe_call hS hr rfl T.S.m T.S.F.kp T.S.b .nil passN (pa_cons (pv 0) (pa_cons (pe_op op_add (pv 2) pe_int) (pa_cons (pv 3) pa_nil))))))
        (pss_one (ps_expr (pe_call hPl hr rfl T.L.m T.L.F.kp T.L.b .nil passN (pa_cons (pv 0) (pa_cons (pe_op op_add (pv 2) pe_int) (pa_cons (pv 3) pa_nil))))))))))
    (pss_cons (ps_expr (pe_meth (pv 0) TR.cl TR.T.m (ok_take TR) hr5 TR.T.b .nil passN (pa_cons pe_str pa_nil)))
    (pss_one (ps_expr (pe_bm PySem.F.plainAttrs_list PySem.F.slot_list_append PySem.F.type_list_append mt_append (pv 3) (pa_cons (pe_tup (pa_cons (pv 1) (pa_cons pe_str pa_nil))) pa_nil)))))), ?_⟩
  have e40 : Str.ofString "(" = tx [40] := by decide +kernel
  have e41 : Str.ofString ")" = tx [41] := by decide +kernel
  have e44 : Str.ofString "," = tx [44] := by decide +kernel
  obtain ⟨w1, w2⟩ := what_len ⟨g, hg⟩
  have w1 : (takesOf g).length ≤ 4 := w1
  have w2 : takesOf g ≠ [] := w2
  have rst := S.rst
  obtain ⟨⟨dx, er⟩, _⟩ := id S.R
  refine ⟨_, rfl, r, dx, _, rfl, er, rfl, ?_⟩
  refine pa1 ?_
  refine sp_take S.R S.hR (fun a h => rest_sign (c := 40) (by decide +kernel) h) (by rw [e40]; rfl) (fun a0 t1 H1 ea0 hRa0 ex0 hR1 k1 R1 => ?_) (fun o e => rs o (by unfold prt; rw [e]; rfl))
  have hS1 := S.hS.kp k1 (by simp [rst.symm])
  refine ⟨_, rfl, pa, tx (whatOf g), _, rfl, rfl, kd, b, _, rfl, hb H1, ?_⟩
  refine for_it walk_enumT (fun j σ H' => ∃ (l : List SeamText.E) (t1 : Toks) (i1 : Nat) (o1 o2 : Option V), σ = [some (.ref r), some (.str (tx (whatOf g))), some (.int (d : Int)), some (.ref st), o1, o2] ∧ Kp [r, st] H H' ∧ RdAt D.C H' r tl pt i1 ∧ Rest bad len (pt.drop i1) t1 ∧
      StepL H' st (ss ++ stL (takesOf g) l) ∧ (stL (takesOf g) l).length + (i + 1) ≤ i1 ∧ l.length = j ∧ prt d g t = later (d + 1) g l ((takesOf g).drop j) t1)
    ⟨[], t1, i + 1, none, none, rfl, k1.mono (by simp), R1, hR1, by rw [stL, List.append_nil]; exact hS1, by simp [stL], rfl, by unfold prt; rw [ex0, List.drop_zero, later_first]; rfl⟩
    (fun _ _ H' _ _ => hb H') (fun j x σ H2 H3 hj hPv hy => ?_) (fun σ H2 hPv => ?_)
  · obtain ⟨l, t2, i2, o1, o2, rfl, k2, R2, hR2, hS2, hl2, el, ex2⟩ := hPv
    obtain ⟨Tp, x1, x2, rfl, hT, rfl, e1, e2⟩ := hy
    injection e1 with e1
    subst e1
    rw [List.length_map] at hj
    have e2 : ((takesOf g).map fun p => V.str (tx (partB p)))[j]? = some x2 := e2
    rw [List.getElem?_map, List.getElem?_eq_getElem hj] at e2
    injection e2 with e2
    subst e2
    have kA : Kp ([] : List Addr) H2 (upd H2 Tp (.tup [.int (j : Nat), .str (tx (partB (takesOf g)[j]))])) := Kp.new hT
    refine ⟨Tp, _, rfl, SqT.of upd_same, rfl, _, _, rfl, _, _, rfl, rfl, ?_⟩
    generalize upd H2 Tp (.tup [.int (j : Nat), .str (tx (partB (takesOf g)[j]))]) = H3 at kA ⊢
    have R3 := R2.kp kA (by simp) (by simp)
    have hS3 := hS2.kp kA (by simp)
    have k3 : Kp [r, st] H H3 := k2.trans (kA.mono (by simp))
    have edrop : (takesOf g).drop j = (takesOf g)[j] :: (takesOf g).drop (j + 1) := List.drop_eq_getElem_cons hj
    generalize hp : (takesOf g)[j] = p at edrop ⊢
    refine ⟨_, rfl, _, _, rfl, rfl, _, rfl, ite2 (fun c => ?_) (fun c => ?_)⟩
    · have c' : 0 < j := by have := of_decide_eq_true c; omega
      have hne : l ≠ [] := fun z => by rw [z] at el; simp at el; omega
      have ex3 := ex2
      rw [edrop, later_go _ _ _ _ _ _ hne] at ex3
      obtain ⟨⟨dx3, er3⟩, _⟩ := id R3
      refine ⟨_, rfl, r, dx3, _, rfl, er3, rfl, ?_⟩
      refine pa1 ?_
      refine sp_take R3 hR2 (fun a h => rest_sign (c := 44) (by decide +kernel) h) (by rw [e44]; rfl) (fun a4 t4 H4 ea4 hRa4 ex4 hR4 k4 R4 => ?_) (fun o e => rs o (by rw [ex3, e]; rfl))
      have hS4 := hS3.kp k4 (by simp [rst.symm])
      have k34 : Kp [r, st] H H4 := k3.trans (k4.mono (by simp))
      have ex5 : prt d g t = rd (d + 1) (.parts g l (p :: (takesOf g).drop (j + 1))) t4 := by rw [ex3, ex4]; rfl
      refine ⟨_, rfl, rfl, ?_⟩
      rw [part_sum]
      cases p with
      | true =>
        refine ⟨_, rfl, iteF ?_⟩
        refine ⟨_, rfl, _, rfl, _, _, rfl, rfl, _, rfl, r, tl, st, pt, bad, len, i2 + 1, t4, ss ++ stL (takesOf g) l, d + 1, rfl, ⟨R4, hR4, hS4, S.ne, by rw [List.length_append]; have := S.hn; omega, S.p5⟩, by omega, by omega, fun e t' i' H' hx k5 R5 hR5 hS5 hl5 => ?_, fun o hx => rs o ?_⟩
        · have hl5 : (stK true e).length + _ ≤ i' := hl5
          have hS5 : StepL H' st (_ ++ stK true e) := hS5
          refine ⟨l ++ [e], t', i', _, _, rfl, k34.trans k5, R5, hR5, ?_, ?_, ?_, ?_⟩
          · rw [stL_at (by rw [el]; exact edrop), ← List.append_assoc]
            exact hS5
          · rw [stL_at (by rw [el]; exact edrop), List.length_append]
            omega
          · rw [List.length_append, el]
            rfl
          · rw [ex5, parts_go]
            show SeamNum.next (rd (d + 1) .place _) _ = _
            rw [hx]
            rfl
        · rw [ex5, parts_go]
          show SeamNum.next (rd (d + 1) .place _) _ = _
          rw [hx]
          rfl
      | false =>
        refine ⟨_, rfl, iteT ?_⟩
        refine ⟨_, rfl, _, rfl, _, _, rfl, rfl, _, rfl, r, tl, st, pt, bad, len, i2 + 1, t4, ss ++ stL (takesOf g) l, d + 1, rfl, ⟨R4, hR4, hS4, S.ne, by rw [List.length_append]; have := S.hn; omega, S.p5⟩, by omega, by omega, fun e t' i' H' hx k5 R5 hR5 hS5 hl5 => ?_, fun o hx => rs o ?_⟩
        · have hl5 : (stK false e).length + _ ≤ i' := hl5
          have hS5 : StepL H' st (_ ++ stK false e) := hS5
          refine ⟨l ++ [e], t', i', _, _, rfl, k34.trans k5, R5, hR5, ?_, ?_, ?_, ?_⟩
          · rw [stL_at (by rw [el]; exact edrop), ← List.append_assoc]
            exact hS5
          · rw [stL_at (by rw [el]; exact edrop), List.length_append]
            omega
          · rw [List.length_append, el]
            rfl
          · rw [ex5, parts_go]
            show SeamNum.next (rd (d + 1) .sum _) _ = _
            rw [hx]
            rfl
        · rw [ex5, parts_go]
          show SeamNum.next (rd (d + 1) .sum _) _ = _
          rw [hx]
          rfl
    · have c' : j = 0 := by have := of_decide_eq_false (Bool.eq_false_iff.mpr c); omega
      have hne : l = [] := List.length_eq_zero_iff.mp (by omega)
      have ex5 : prt d g t = rd (d + 1) (.parts g l (p :: (takesOf g).drop (j + 1))) t2 := by
        rw [ex2, edrop, hne, later_first]
      refine ⟨_, rfl, rfl, ?_⟩
      rw [part_sum]
      cases p with
      | true =>
        refine ⟨_, rfl, iteF ?_⟩
        refine ⟨_, rfl, _, rfl, _, _, rfl, rfl, _, rfl, r, tl, st, pt, bad, len, i2, t2, ss ++ stL (takesOf g) l, d + 1, rfl, ⟨R3, hR2, hS3, S.ne, by rw [List.length_append]; have := S.hn; omega, S.p5⟩, by omega, by omega, fun e t' i' H' hx k5 R5 hR5 hS5 hl5 => ?_, fun o hx => rs o ?_⟩
        · have hl5 : (stK true e).length + _ ≤ i' := hl5
          have hS5 : StepL H' st (_ ++ stK true e) := hS5
          refine ⟨l ++ [e], t', i', _, _, rfl, k3.trans k5, R5, hR5, ?_, ?_, ?_, ?_⟩
          · rw [stL_at (by rw [el]; exact edrop), ← List.append_assoc]
            exact hS5
          · rw [stL_at (by rw [el]; exact edrop), List.length_append]
            omega
          · rw [List.length_append, el]
            rfl
          · rw [ex5, parts_go]
            show SeamNum.next (rd (d + 1) .place _) _ = _
            rw [hx]
            rfl
        · rw [ex5, parts_go]
          show SeamNum.next (rd (d + 1) .place _) _ = _
          rw [hx]
          rfl
      | false =>
        refine ⟨_, rfl, iteT ?_⟩
        refine ⟨_, rfl, _, rfl, _, _, rfl, rfl, _, rfl, r, tl, st, pt, bad, len, i2, t2, ss ++ stL (takesOf g) l, d + 1, rfl, ⟨R3, hR2, hS3, S.ne, by rw [List.length_append]; have := S.hn; omega, S.p5⟩, by omega, by omega, fun e t' i' H' hx k5 R5 hR5 hS5 hl5 => ?_, fun o hx => rs o ?_⟩
        · have hl5 : (stK false e).length + _ ≤ i' := hl5
          have hS5 : StepL H' st (_ ++ stK false e) := hS5
          refine ⟨l ++ [e], t', i', _, _, rfl, k3.trans k5, R5, hR5, ?_, ?_, ?_, ?_⟩
          · rw [stL_at (by rw [el]; exact edrop), ← List.append_assoc]
            exact hS5
          · rw [stL_at (by rw [el]; exact edrop), List.length_append]
            omega
          · rw [List.length_append, el]
            rfl
          · rw [ex5, parts_go]
            show SeamNum.next (rd (d + 1) .sum _) _ = _
            rw [hx]
            rfl
        · rw [ex5, parts_go]
          show SeamNum.next (rd (d + 1) .sum _) _ = _
          rw [hx]
          rfl
  · obtain ⟨l, t2, i2, o1, o2, rfl, k2, R2, hR2, hS2, hl2, el, ex2⟩ := hPv
    rw [List.length_map] at el ex2
    rw [List.drop_length, later_end] at ex2
    obtain ⟨⟨dx2, er2⟩, _⟩ := id R2
    refine ⟨_, rfl, r, dx2, _, rfl, er2, rfl, ?_⟩
    refine pa1 ?_
    refine sp_take R2 hR2 (fun a h => rest_sign (c := 41) (by decide +kernel) h) (by rw [e41]; rfl) (fun a3 t3 H3 ea3 hRa3 ex3 hR3 k3 R3 => ?_) (fun o e => rs o (by rw [ex2, e]; rfl))
    have hS3 := hS2.kp k3 (by simp [rst.symm])
    obtain ⟨as, hl, hp⟩ := hS3
    obtain ⟨_, _, _, hi3⟩ := rest_get hR3
    refine ⟨_, rfl, .inl ⟨rfl, _, SqL.of hl⟩, _, rfl, (by show 2 ≤ sizeLine; decide), fun p2 hp2 => ?_⟩
    obtain ⟨a1, a2, a3, a4⟩ := app_done (whatOf g, []) (k2.trans (k3.mono (by simp))) R3 S.ne hl hp hp2
    have p5 := S.p5
    have hn := S.hn
    refine ⟨st, _, _, rfl, rfl, a1, S.len hp (by rw [List.length_append]; omega), ?_⟩
    have hne : l ≠ [] := fun z => by
      rw [z] at el
      exact w2 (List.length_eq_zero_iff.mp el.symm)
    have hst := stK_called (p := decide (4 ≤ g)) (f := g) hne (by omega)
    refine good (SeamText.called g l) t3 (i2 + 1) _ (by rw [ex2, ex3]; rfl) a2 a3 hR3 ?_ ?_
    · rw [hst, ← List.append_assoc]
      exact a4
    · rw [hst, List.length_append, List.length_singleton]
      omega
end
end SDP
set_option Elab.async false
set_option linter.all false
set_option maxRecDepth 100000
set_option maxHeartbeats 4000000
namespace SDP
open PySem PySem.Spec PyProof.Rows L2 SDX SD TL
open SeamNum (Bytes)
open SeamText (Toks Got isWord signs ownName Goal takesOf wordOf)
theorem sp_takeK {D : RdAd} {vs : List V} {H : Hp} {Q : VK} {E : XK} {r tl : Addr} {pt : List PT} {i : Nat} {k : Bytes} {a : PT} (R : RdAt D.C H r tl pt i) (ea : pt[i]? = some a) (hk : a.1 = k) (hv : vs = [.ref r, .str (tx k)])
    (good : ∀ H', Kp [r] H H' → RdAt D.C H' r tl pt (i + 1) → Q (.str (tx a.2.1)) H') : spTake D vs H Q E := ⟨r, tl, pt, i, a, k, hv, R, ea, fun _ => good, fun h => absurd hk h⟩
theorem pa1i {i : Nat} {v : V} {σ : L2.St} {H : Hp} {R : List V → Hp → Prop} (e : σ[i]? = some (some v)) (h : R [v] H) : tCons (tVar i) tNil σ H R := ⟨v, e, h⟩
theorem dec_int (d : Nat) : decide (V.int (d : Int) = V.int 6) = decide (d = 6) := by
  by_cases e : d = 6
  · subst e
    rfl
  · rw [decide_eq_false e]
    exact decide_eq_false fun z => e (by injection z with z; omega)
section
variable {P : Program} {w : World} {K : PySem.W.Frag} {mg : Str → Option Value} {base : Heap} {D : RdAd} {A : FAd}
theorem scFac : FnScope ["reader", "depth", "steps", "kind"] ["reader", "depth", "steps"] (defScope sFac) := ⟨rfl, rfl, rfl, by decide +kernel, rfl, by decide +kernel, by decide +kernel⟩
theorem scPl : FnScope ["reader", "depth", "steps", "kind"] ["reader", "depth", "steps"] (defScope sPl) := ⟨rfl, rfl, rfl, by decide +kernel, rfl, by decide +kernel, by decide +kernel⟩
theorem ok_fac (T : RcT K mg D A) {n L : Nat} (hL : 5 ≤ L) (hS : FnOk P w K mg base (L2N.CX P w) L A.fS A.dS ["reader", "depth", "steps"] (spGoal D .sum n)) (hF : FnOk P w K mg base (L2N.CX P w) L A.fF A.dF ["reader", "depth", "steps"] (spGoal D .factor n))
    (hA : FnOk P w K mg base (L2N.CX P w) L A.fA A.dA ["reader", "what", "depth", "steps"] (spParts D (n + 1))) : FnOk P w K mg base (L2N.CX P w) (L + 1) A.fF A.dF ["reader", "depth", "steps"] (spGoal D .factor (n + 1)) := by
  refine okN T.F.F scFac (fun vs H Q E h => ?_) (fun cdv A0 outer s H vs Q E hr h => ?_)
  · obtain ⟨r, tl, st, pt, bad, len, i, t, ss, d, rfl, _⟩ := h
    rfl
  obtain ⟨r, tl, st, pt, bad, len, i, t, ss, d, rfl, S, hd, hdn, good, rs⟩ := h
  have good : ∀ e t' i' H', rd d .factor t = .ok (e, t') → Kp [r, st] H H' → RdAt D.C H' r tl pt i' → Rest bad len (pt.drop i') t' → StepL H' st (ss ++ stK false e) → (stK false e).length + i ≤ i' → Q .non H' := good
  have hr1 : Room 1 _ := hr.mono (by omega)
  have hr5 : Room 5 _ := hr.mono (by omega)
  have hr4 : Room 4 _ := hr.mono (by omega)
  have TR := T.T
  obtain ⟨aSW, gSW, sSW⟩ := T.SW
  refine ⟨_, pss_cons (ps_set (i := 3) scFac.nd rfl (Or.inl rfl) (pe_meth0 (pv 0) TR.cl TR.Hh.m (ok_here TR) hr1 TR.Hh.b .nil pass0))
    (pss_one (ps_if (pt_cmpR op_eq (pv 3) (pe_gs rfl TR.G.NAME) (by rfl))
      (pss_one (ps_expr (pe_bm PySem.F.plainAttrs_list PySem.F.slot_list_append PySem.F.type_list_append mt_append (pv 2) (pa_cons (pe_tup (pa_cons (pe_gs rfl T.SUMN) (pa_cons (pe_meth (pv 0) TR.cl TR.T.m (ok_take TR) hr5 TR.T.b .nil passN (pa_cons (pe_gs rfl TR.G.NAME) pa_nil)) pa_nil))) pa_nil))))
      (pss_one (ps_if (pt_cmpR op_eq (pv 3) (pe_gs rfl TR.G.NUMBER) (by rfl))
        (pss_one (ps_expr (pe_bm PySem.F.plainAttrs_list PySem.F.slot_list_append PySem.F.type_list_append mt_append (pv 2) (pa_cons (pe_tup (pa_cons (pe_gs rfl TR.G.NUMBER) (pa_cons
          (pe_call (ok_plain T.N) hr1 rfl T.N.m T.N.F.kp T.N.b .nil pass0 (pa_cons (pe_meth (pv 0) TR.cl TR.T.m (ok_take TR) hr5 TR.T.b .nil passN (pa_cons (pe_gs rfl TR.G.NUMBER) pa_nil)) pa_nil)) pa_nil))) pa_nil))))
        (pss_one (ps_if (pt_cmpR op_eq (pv 1) (pe_gi rfl T.DEEP) (by rfl))
          (pss_one (ps_expr (pe_meth0 (pv 0) TR.cl TR.R.m (ok_refuse TR) hr4 TR.R.b .nil passN)))
          (pss_one (ps_if (pt_cmpR op_eq (pv 3) pe_str (by rfl))
            (pss_cons (ps_expr (pe_meth (pv 0) TR.cl TR.T.m (ok_take TR) hr5 TR.T.b .nil passN (pa_cons pe_str pa_nil)))
            (pss_cons (ps_expr (pe_call hF hr rfl T.F.m T.F.F.kp T.F.b .nil passN (pa_cons (pv 0) (pa_cons (pe_op op_add (pv 1) pe_int) (pa_cons (pv 2) pa_nil)))))
            (pss_one (ps_expr (pe_bm PySem.F.plainAttrs_list PySem.F.slot_list_append PySem.F.type_list_append mt_append (pv 2) (pa_cons (pe_tup (pa_cons (pe_gs rfl T.NEG) (pa_cons pe_str pa_nil))) pa_nil))))))
            (pss_one (ps_if (pt_cmpR op_eq (pv 3) pe_str (by rfl))
              (pss_cons (ps_expr (pe_meth (pv 0) TR.cl TR.T.m (ok_take TR) hr5 TR.T.b .nil passN (pa_cons pe_str pa_nil)))
              (pss_cons (ps_expr (pe_call hS hr rfl T.S.m T.S.F.kp T.S.b .nil passN (pa_cons (pv 0) (pa_cons (pe_op op_add (pv 1) pe_int) (pa_cons (pv 2) pa_nil)))))
              (pss_one (ps_expr (pe_meth (pv 0) TR.cl TR.T.m (ok_take TR) hr5 TR.T.b .nil passN (pa_cons pe_str pa_nil))))))
              (pss_one (ps_if (pt_cmpR op_in_seq (pv 3) (pe_gr rfl gSW) (by rfl))
                (pss_cons (ps_expr (pe_meth (pv 0) TR.cl TR.T.m (ok_take TR) hr5 TR.T.b .nil passN (pa_cons (pv 3) pa_nil)))
                (pss_one (ps_expr (pe_call hA hr rfl T.Pa.m T.Pa.F.kp T.Pa.b .nil passN (pa_cons (pv 0) (pa_cons (pv 3) (pa_cons (pv 1) (pa_cons (pv 2) pa_nil))))))))
                (pss_one (ps_expr (pe_meth0 (pv 0) TR.cl TR.R.m (ok_refuse TR) hr4 TR.R.b .nil passN))))))))))))))), ?_⟩
  have rst := S.rst
  have p5 := S.p5
  have hn := S.hn
  have eneg : Str.ofString "-" = tx [45] := by decide +kernel
  have epar : Str.ofString "(" = tx [40] := by decide +kernel
  have eend : Str.ofString ")" = tx [41] := by decide +kernel
  obtain ⟨a, ea, hRa, hi⟩ := rest_get S.hR
  obtain ⟨⟨dx, er⟩, _⟩ := id S.R
  obtain ⟨as0, hl0, hp0⟩ := id S.hS
  refine ⟨_, rfl, r, dx, _, rfl, er, rfl, r, tl, pt, i, a, rfl, S.R, ea, ?_⟩
  refine ⟨_, rfl, rfl, ?_⟩
  rw [dec_str]
  by_cases h1 : a.1 = sName
  · rw [decide_eq_true h1]
    refine ⟨_, rfl, iteT ?_⟩
    refine ⟨_, rfl, .inl ⟨rfl, _, SqL.of hl0⟩, _, rfl, r, dx, _, rfl, er, rfl, ?_⟩
    refine pa1 ?_
    refine sp_takeK S.R ea h1 rfl fun H3 k3 R3 => ?_
    obtain ⟨t', ex, hR'⟩ := fac_name (d := d) hRa h1
    obtain ⟨as, hl, hp⟩ := S.hS.kp k3 (by simp [rst.symm])
    refine ⟨(by show 2 ≤ sizeLine; decide), fun p2 hp2 => ?_⟩
    obtain ⟨a1, a2, a3, a4⟩ := app_done (sSumN, a.2.1) (k3.mono (by simp)) R3 S.ne hl hp hp2
    refine ⟨st, _, _, rfl, rfl, a1, S.len hp (by omega), ?_⟩
    exact good _ t' (i + 1) _ ex a2 a3 hR' a4 (by show 1 + i ≤ i + 1; omega)
  rw [decide_eq_false h1]
  refine ⟨_, rfl, iteF ?_⟩
  refine ⟨_, rfl, rfl, ?_⟩
  rw [dec_str]
  by_cases h2 : a.1 = sNumber
  · rw [decide_eq_true h2]
    refine ⟨_, rfl, iteT ?_⟩
    refine ⟨_, rfl, .inl ⟨rfl, _, SqL.of hl0⟩, _, rfl, r, dx, _, rfl, er, rfl, ?_⟩
    refine pa1 ?_
    refine sp_takeK S.R ea h2 rfl fun H3 k3 R3 => ?_
    obtain ⟨n1, j1, t', x, y, ex, hR', N, epl⟩ := fac_num (d := d) hRa h2
    refine ⟨a.2.1, x, y, rfl, one_line hRa (.inr (.inl h2)), N, fun H5 s5 => ?_⟩
    have k5 : Kp [r] H H5 := k3.trans (Kp.same s5)
    have R5 := R3.kp (Kp.same (M := []) s5) (by simp) (by simp)
    obtain ⟨as, hl, hp⟩ := S.hS.kp k5 (by simp [rst.symm])
    refine ⟨(by show 2 ≤ sizeLine; decide), fun p2 hp2 => ?_⟩
    rw [← epl]
    obtain ⟨a1, a2, a3, a4⟩ := app_done (sNumber, SeamText.pointText n1 j1) (k5.mono (by simp)) R5 S.ne hl hp hp2
    refine ⟨st, _, _, rfl, rfl, a1, S.len hp (by omega), ?_⟩
    exact good _ t' (i + 1) _ ex a2 a3 hR' a4 (by show 1 + i ≤ i + 1; omega)
  rw [decide_eq_false h2]
  refine ⟨_, rfl, iteF ?_⟩
  refine ⟨_, rfl, rfl, ?_⟩
  rw [dec_int]
  by_cases h3 : d = 6
  · rw [decide_eq_true h3]
    refine ⟨_, rfl, iteT ?_⟩
    obtain ⟨o, e, eo⟩ := fac_deep (d := d) hRa h1 h2 (by show 6 ≤ d; omega)
    exact ⟨_, rfl, r, dx, _, rfl, er, rfl, r, tl, pt, i, a, rfl, S.R, ea, RsO.of eo (rs o e)⟩
  rw [decide_eq_false h3]
  have hd6 : d < SeamText.DEEP := by show d < 6; omega
  refine ⟨_, rfl, iteF ?_⟩
  refine ⟨_, rfl, rfl, ?_⟩
  rw [eneg, dec_str]
  by_cases h4 : a.1 = [45]
  · rw [decide_eq_true h4]
    obtain ⟨t', hR', ex⟩ := fac_neg (d := d) hRa h4 hd6
    refine ⟨_, rfl, iteT ?_⟩
    refine ⟨_, rfl, r, dx, _, rfl, er, rfl, ?_⟩
    refine pa1 ?_
    refine sp_takeK S.R ea h4 rfl fun H3 k3 R3 => ?_
    have hS3 := S.hS.kp k3 (by simp [rst.symm])
    refine ⟨_, rfl, _, rfl, _, _, rfl, rfl, _, rfl, r, tl, st, pt, bad, len, i + 1, t', ss, d + 1, rfl, ⟨R3, hR', hS3, S.ne, by omega, p5⟩, by have := hd6; omega, by omega, fun e t2 i2 H4 hx k4 R4 hR4 hS4 hl4 => ?_, fun o hx => rs o (by rw [ex, hx]; rfl)⟩
    have hl4 : (stK false e).length + _ ≤ i2 := hl4
    obtain ⟨as, hl, hp⟩ := hS4
    obtain ⟨_, _, _, hi2⟩ := rest_get hR4
    refine ⟨_, rfl, .inl ⟨rfl, _, SqL.of hl⟩, (by show 2 ≤ sizeLine; decide), fun p2 hp2 => ?_⟩
    obtain ⟨a1, a2, a3, a4⟩ := app_done (sNeg, []) ((k3.mono (by simp)).trans k4) R4 S.ne hl hp hp2
    refine ⟨st, _, _, rfl, rfl, a1, S.len hp (by rw [List.length_append]; omega), ?_⟩
    refine good (.neg e) t2 i2 _ (by rw [ex, hx]; rfl) a2 a3 hR4 ?_ ?_
    · show StepL _ st (ss ++ (stK false e ++ [(sNeg, [])]))
      rw [← List.append_assoc]
      exact a4
    · show (stK false e ++ [(sNeg, [])]).length + i ≤ i2
      rw [List.length_append, List.length_singleton]
      omega
  rw [decide_eq_false h4]
  refine ⟨_, rfl, iteF ?_⟩
  refine ⟨_, rfl, rfl, ?_⟩
  rw [epar, dec_str]
  by_cases h5 : a.1 = [40]
  · rw [decide_eq_true h5]
    obtain ⟨t', hR', ex⟩ := fac_paren (d := d) hRa h5 hd6
    refine ⟨_, rfl, iteT ?_⟩
    refine ⟨_, rfl, r, dx, _, rfl, er, rfl, ?_⟩
    refine pa1 ?_
    refine sp_takeK S.R ea h5 rfl fun H3 k3 R3 => ?_
    have hS3 := S.hS.kp k3 (by simp [rst.symm])
    refine ⟨_, rfl, _, rfl, _, _, rfl, rfl, _, rfl, r, tl, st, pt, bad, len, i + 1, t', ss, d + 1, rfl, ⟨R3, hR', hS3, S.ne, by omega, p5⟩, by have := hd6; omega, by omega, fun e t2 i2 H4 hx k4 R4 hR4 hS4 hl4 => ?_, fun o hx => rs o (by rw [ex, hx]; rfl)⟩
    have hl4 : (stK false e).length + _ ≤ i2 := hl4
    have hS4 : StepL H4 st (_ ++ stK false e) := hS4
    obtain ⟨⟨dx4, er4⟩, _⟩ := id R4
    refine ⟨_, rfl, r, dx4, _, rfl, er4, rfl, ?_⟩
    refine pa1 ?_
    refine sp_take R4 hR4 (fun a h => rest_sign (c := 41) (by decide +kernel) h) (by rw [eend]; rfl) (fun a5 t5 H5 ea5 hRa5 ex5 hR5 k5 R5 => ?_) (fun o e2 => rs o (by rw [ex, hx]; show SeamNum.next (SeamText.sign 41 t2) _ = _; rw [e2]; rfl))
    have hS5 := hS4.kp k5 (by simp [rst.symm])
    refine good e t5 (i2 + 1) _ (by rw [ex, hx]; show SeamNum.next (SeamText.sign 41 t2) _ = _; rw [ex5]; rfl) (((k3.mono (by simp)).trans k4).trans (k5.mono (by simp))) R5 hR5 hS5 (by omega)
  rw [decide_eq_false h5]
  refine ⟨_, rfl, iteF ?_⟩
  refine ⟨_, rfl, _, _, rfl, .inr (sSW _), rfl, flat_tx _, _, rfl, ?_⟩
  show if inV _ _ = true then _ else _
  rw [inV_tx]
  by_cases h6 : SUMB.contains a.1 = true
  · obtain ⟨g, hg, eg⟩ := sum_mem h6
    have ew : whatOf g = a.1 := by
      unfold whatOf
      rw [if_neg (by omega), eg]
    obtain ⟨t', hR', ex⟩ := fac_fn hg hRa eg hd6
    rw [h6]
    refine iteT ?_
    refine ⟨_, rfl, r, dx, _, rfl, er, rfl, ?_⟩
    refine pa1i (v := .str (tx a.1)) rfl ?_
    refine sp_takeK S.R ea rfl rfl fun H3 k3 R3 => ?_
    have hS3 := S.hS.kp k3 (by simp [rst.symm])
    refine ⟨_, rfl, _, rfl, _, rfl, _, rfl, r, tl, st, pt, bad, len, i + 1, t', ss, d, g, by rw [ew]; rfl, ⟨R3, hR', hS3, S.ne, by omega, p5⟩, by have := hd6; omega, by omega, by omega, fun e t2 i2 H4 hx k4 R4 hR4 hS4 hl4 => ?_, fun o hx => rs o (by rw [ex, hx])⟩
    rw [decide_eq_false (show ¬ 4 ≤ g by omega)] at hS4 hl4
    exact good e t2 i2 H4 (by rw [ex, hx]) ((k3.mono (by simp)).trans k4) R4 hR4 hS4 (by omega)
  · rw [Bool.eq_false_iff.mpr h6]
    refine iteF ?_
    obtain ⟨o, e, eo⟩ := fac_other (d := d) hRa h1 h2 h4 h5 (Bool.eq_false_iff.mpr h6)
    exact ⟨_, rfl, r, dx, _, rfl, er, rfl, r, tl, pt, i, a, rfl, S.R, ea, RsO.of eo (rs o e)⟩
theorem ok_pl (T : RcT K mg D A) {n L : Nat} (hL : 5 ≤ L) (hA : FnOk P w K mg base (L2N.CX P w) L A.fA A.dA ["reader", "what", "depth", "steps"] (spParts D (n + 1))) : FnOk P w K mg base (L2N.CX P w) (L + 1) A.fL A.dL ["reader", "depth", "steps"] (spGoal D .place (n + 1)) := by
  refine okN T.L.F scPl (fun vs H Q E h => ?_) (fun cdv A0 outer s H vs Q E hr h => ?_)
  · obtain ⟨r, tl, st, pt, bad, len, i, t, ss, d, rfl, _⟩ := h
    rfl
  obtain ⟨r, tl, st, pt, bad, len, i, t, ss, d, rfl, S, hd, hdn, good, rs⟩ := h
  have good : ∀ e t' i' H', rd d .place t = .ok (e, t') → Kp [r, st] H H' → RdAt D.C H' r tl pt i' → Rest bad len (pt.drop i') t' → StepL H' st (ss ++ stK true e) → (stK true e).length + i ≤ i' → Q .non H' := good
  have hr1 : Room 1 _ := hr.mono (by omega)
  have hr5 : Room 5 _ := hr.mono (by omega)
  have hr4 : Room 4 _ := hr.mono (by omega)
  have TR := T.T
  obtain ⟨aPW, gPW, sPW⟩ := T.PW
  refine ⟨_, pss_cons (ps_set (i := 3) scPl.nd rfl (Or.inl rfl) (pe_meth0 (pv 0) TR.cl TR.Hh.m (ok_here TR) hr1 TR.Hh.b .nil pass0))
    (pss_one (ps_if (pt_cmpR op_eq (pv 3) (pe_gs rfl TR.G.NAME) (by rfl))
      (pss_one (ps_expr (pe_bm PySem.F.plainAttrs_list PySem.F.slot_list_append PySem.F.type_list_append mt_append (pv 2) (pa_cons (pe_tup (pa_cons (pe_gs rfl T.PLN) (pa_cons (pe_meth (pv 0) TR.cl TR.T.m (ok_take TR) hr5 TR.T.b .nil passN (pa_cons (pe_gs rfl TR.G.NAME) pa_nil)) pa_nil))) pa_nil))))
      (pss_one (ps_if (pt_cmpR op_eq (pv 1) (pe_gi rfl T.DEEP) (by rfl))
        (pss_one (ps_expr (pe_meth0 (pv 0) TR.cl TR.R.m (ok_refuse TR) hr4 TR.R.b .nil passN)))
        (pss_one (ps_if (pt_cmpR op_eq (pv 3) pe_str (by rfl))
          (pss_one (ps_expr (pe_call hA hr rfl T.Pa.m T.Pa.F.kp T.Pa.b .nil passN (pa_cons (pv 0) (pa_cons (pe_gs rfl T.PAIR) (pa_cons (pv 1) (pa_cons (pv 2) pa_nil)))))))
          (pss_one (ps_if (pt_cmpR op_in_seq (pv 3) (pe_gr rfl gPW) (by rfl))
            (pss_cons (ps_expr (pe_meth (pv 0) TR.cl TR.T.m (ok_take TR) hr5 TR.T.b .nil passN (pa_cons (pv 3) pa_nil)))
            (pss_one (ps_expr (pe_call hA hr rfl T.Pa.m T.Pa.F.kp T.Pa.b .nil passN (pa_cons (pv 0) (pa_cons (pv 3) (pa_cons (pv 1) (pa_cons (pv 2) pa_nil))))))))
            (pss_one (ps_expr (pe_meth0 (pv 0) TR.cl TR.R.m (ok_refuse TR) hr4 TR.R.b .nil passN))))))))))), ?_⟩
  have rst := S.rst
  have p5 := S.p5
  have hn := S.hn
  have epar : Str.ofString "(" = tx [40] := by decide +kernel
  obtain ⟨a, ea, hRa, hi⟩ := rest_get S.hR
  obtain ⟨⟨dx, er⟩, _⟩ := id S.R
  obtain ⟨as0, hl0, hp0⟩ := id S.hS
  refine ⟨_, rfl, r, dx, _, rfl, er, rfl, r, tl, pt, i, a, rfl, S.R, ea, ?_⟩
  refine ⟨_, rfl, rfl, ?_⟩
  rw [dec_str]
  by_cases h1 : a.1 = sName
  · rw [decide_eq_true h1]
    refine ⟨_, rfl, iteT ?_⟩
    refine ⟨_, rfl, .inl ⟨rfl, _, SqL.of hl0⟩, _, rfl, r, dx, _, rfl, er, rfl, ?_⟩
    refine pa1 ?_
    refine sp_takeK S.R ea h1 rfl fun H3 k3 R3 => ?_
    obtain ⟨t', ex, hR'⟩ := pl_name (d := d) hRa h1
    obtain ⟨as, hl, hp⟩ := S.hS.kp k3 (by simp [rst.symm])
    refine ⟨(by show 2 ≤ sizeLine; decide), fun p2 hp2 => ?_⟩
    obtain ⟨a1, a2, a3, a4⟩ := app_done (sPlaceN, a.2.1) (k3.mono (by simp)) R3 S.ne hl hp hp2
    refine ⟨st, _, _, rfl, rfl, a1, S.len hp (by omega), ?_⟩
    exact good _ t' (i + 1) _ ex a2 a3 hR' a4 (by show 1 + i ≤ i + 1; omega)
  rw [decide_eq_false h1]
  refine ⟨_, rfl, iteF ?_⟩
  refine ⟨_, rfl, rfl, ?_⟩
  rw [dec_int]
  by_cases h3 : d = 6
  · rw [decide_eq_true h3]
    refine ⟨_, rfl, iteT ?_⟩
    obtain ⟨o, e, eo⟩ := pl_deep (d := d) hRa h1 (by show 6 ≤ d; omega)
    exact ⟨_, rfl, r, dx, _, rfl, er, rfl, r, tl, pt, i, a, rfl, S.R, ea, RsO.of eo (rs o e)⟩
  rw [decide_eq_false h3]
  have hd6 : d < SeamText.DEEP := by show d < 6; omega
  refine ⟨_, rfl, iteF ?_⟩
  refine ⟨_, rfl, rfl, ?_⟩
  rw [epar, dec_str]
  by_cases h5 : a.1 = [40]
  · rw [decide_eq_true h5]
    have ex := pl_pair (d := d) hRa h5 hd6
    refine ⟨_, rfl, iteT ?_⟩
    refine ⟨_, rfl, _, rfl, _, rfl, r, tl, st, pt, bad, len, i, t, ss, d, 4, rfl, S, by have := hd6; omega, by omega, by omega, fun e t2 i2 H4 hx k4 R4 hR4 hS4 hl4 => ?_, fun o hx => rs o (by rw [ex, hx])⟩
    have hS4 : StepL H4 st (_ ++ stK true e) := hS4
    have hl4 : (stK true e).length + _ ≤ i2 := hl4
    exact good e t2 i2 H4 (by rw [ex, hx]) k4 R4 hR4 hS4 hl4
  rw [decide_eq_false h5]
  refine ⟨_, rfl, iteF ?_⟩
  refine ⟨_, rfl, _, _, rfl, .inr (sPW _), rfl, flat_tx _, _, rfl, ?_⟩
  show if inV _ _ = true then _ else _
  rw [inV_tx]
  by_cases h6 : PLACEB.contains a.1 = true
  · obtain ⟨g, hg5, hg, eg⟩ := place_mem h6
    have ew : whatOf g = a.1 := by
      unfold whatOf
      rw [if_neg (by omega), eg]
    obtain ⟨t', hR', ex⟩ := pl_fn hg5 hg hRa eg hd6
    rw [h6]
    refine iteT ?_
    refine ⟨_, rfl, r, dx, _, rfl, er, rfl, ?_⟩
    refine pa1i (v := .str (tx a.1)) rfl ?_
    refine sp_takeK S.R ea rfl rfl fun H3 k3 R3 => ?_
    have hS3 := S.hS.kp k3 (by simp [rst.symm])
    refine ⟨_, rfl, _, rfl, _, rfl, _, rfl, r, tl, st, pt, bad, len, i + 1, t', ss, d, g, by rw [ew]; rfl, ⟨R3, hR', hS3, S.ne, by omega, p5⟩, by have := hd6; omega, by omega, hg, fun e t2 i2 H4 hx k4 R4 hR4 hS4 hl4 => ?_, fun o hx => rs o (by rw [ex, hx])⟩
    rw [decide_eq_true (show 4 ≤ g by omega)] at hS4 hl4
    exact good e t2 i2 H4 (by rw [ex, hx]) ((k3.mono (by simp)).trans k4) R4 hR4 hS4 (by omega)
  · rw [Bool.eq_false_iff.mpr h6]
    refine iteF ?_
    obtain ⟨o, e, eo⟩ := pl_other (d := d) hRa h1 h5 (Bool.eq_false_iff.mpr h6)
    exact ⟨_, rfl, r, dx, _, rfl, er, rfl, r, tl, pt, i, a, rfl, S.R, ea, RsO.of eo (rs o e)⟩
end
end SDP
set_option Elab.async false
set_option linter.all false
set_option maxRecDepth 100000
set_option maxHeartbeats 4000000
namespace SDP
open PySem PySem.Spec PyProof.Rows L2 SDX SD TL
open SeamNum (Bytes)
open SeamText (Toks Got isWord signs ownName Goal takesOf wordOf corners statement)
section
variable {P : Program} {w : World} {K : PySem.W.Frag} {mg : Str → Option Value} {base : Heap} {D : RdAd} {A : FAd}
theorem fn_none {k : Nat} {f : Addr} {fd : FuncData} {ps : List Str} {sp : Sp} (h : ∀ vs H Q E, ¬ sp vs H Q E) : FnOk P w K mg base (L2N.CX P w) k f fd ps sp :=
  ⟨fun _ _ _ _ x => absurd x (h _ _ _ _), fun _ _ _ _ _ _ _ _ _ _ _ _ _ x => absurd x (h _ _ _ _)⟩
theorem goal_none (g : Goal) : ∀ vs H Q E, ¬ spGoal D g 0 vs H Q E := fun vs H Q E h => by
  obtain ⟨r, tl, st, pt, bad, len, i, t, ss, d, _, _, h1, h2, _⟩ := h
  omega
structure AllG (P : Program) (w : World) (K : PySem.W.Frag) (mg : Str → Option Value) (base : Heap) (D : RdAd) (A : FAd) (n L : Nat) : Prop where
  S : FnOk P w K mg base (L2N.CX P w) L A.fS A.dS ["reader", "depth", "steps"] (spGoal D .sum n)
  F : FnOk P w K mg base (L2N.CX P w) L A.fF A.dF ["reader", "depth", "steps"] (spGoal D .factor n)
  L : FnOk P w K mg base (L2N.CX P w) L A.fL A.dL ["reader", "depth", "steps"] (spGoal D .place n)
theorem all_g (T : RcT K mg D A) (TD : PartsD K w mg) : ∀ n, AllG P w K mg base D A n (5 + 4 * n)
  | 0 => ⟨fn_none (goal_none _), fn_none (goal_none _), fn_none (goal_none _)⟩
  | n + 1 => by
    obtain ⟨hS, hF, hL⟩ := all_g T TD n
    have hA := ok_parts T TD (by omega) hS hL
    have h1 : 5 + 4 * n ≤ 5 + 4 * n + 1 := by omega
    have hF1 := ok_fac T (L := 5 + 4 * n + 1) (by omega) (hS.mono h1) (hF.mono h1) hA
    have hL1 := ok_pl T (L := 5 + 4 * n + 1) (by omega) hA
    have hP1 := ok_Prod T (L := 5 + 4 * n + 1 + 1) (by omega) hF1
    have hS1 := ok_Sum T (L := 5 + 4 * n + 1 + 1 + 1) (by omega) hP1
    have e : 5 + 4 * (n + 1) = 5 + 4 * n + 1 + 1 + 1 + 1 := by omega
    rw [e]
    exact ⟨hS1, hF1.mono (by omega), hL1.mono (by omega)⟩
end
def strL (l : List Bytes) : HO := .lst (l.map fun b => V.str (tx b))
/-- a statement's tuple; its inner lists are such as ok says -/
def StR (ok : Addr → Prop) (H : Hp) (v : V) : SeamText.St → Prop
  | .let_ n e => ∃ a st, v = .ref a ∧ H a = some (.tup [.str (tx wLet), .str (tx n), .ref st]) ∧ ok st ∧ StepL H st (stK false e)
  | .point n e => ∃ a st, v = .ref a ∧ H a = some (.tup [.str (tx wPoint), .str (tx n), .ref st]) ∧ ok st ∧ StepL H st (stK true e)
  | .piece n cs g h => ∃ a c gr, v = .ref a ∧ H a = some (.tup [.str (tx wPiece), .str (tx n), .ref c, .ref gr]) ∧ ok c ∧ ok gr ∧ H c = some (strL cs) ∧ H gr = some (strL [g, h])
  | .seam a p q b r s => ∃ t f l, v = .ref t ∧ H t = some (.tup [.str (tx wSeam), .ref f, .ref l]) ∧ ok f ∧ ok l ∧ H f = some (strL [a, p, q]) ∧ H l = some (strL [b, r, s])
theorem StR.imp {ok ok' : Addr → Prop} {H : Hp} {v : V} (h : ∀ a, ok a → ok' a) : ∀ {s : SeamText.St}, StR ok H v s → StR ok' H v s
  | .let_ _ _, ⟨a, st, e, t, o, k⟩ => ⟨a, st, e, t, h _ o, k⟩
  | .point _ _, ⟨a, st, e, t, o, k⟩ => ⟨a, st, e, t, h _ o, k⟩
  | .piece _ _ _ _, ⟨a, c, g, e, t, o1, o2, k⟩ => ⟨a, c, g, e, t, h _ o1, h _ o2, k⟩
  | .seam _ _ _ _ _ _, ⟨a, c, g, e, t, o1, o2, k⟩ => ⟨a, c, g, e, t, h _ o1, h _ o2, k⟩
theorem StR.kp {ok : Addr → Prop} {M : List Addr} {H H' : Hp} {v : V} (k : Kp M H H') (h : ∀ a, ok a → a ∉ M) : ∀ {s : SeamText.St}, StR ok H v s → StR ok H' v s
  | .let_ _ _, ⟨a, st, e, t, o, q⟩ => ⟨a, st, e, k _ _ t (.inr rfl), o, q.kp k (h _ o)⟩
  | .point _ _, ⟨a, st, e, t, o, q⟩ => ⟨a, st, e, k _ _ t (.inr rfl), o, q.kp k (h _ o)⟩
  | .piece _ _ _ _, ⟨a, c, g, e, t, o1, o2, q1, q2⟩ => ⟨a, c, g, e, k _ _ t (.inr rfl), o1, o2, k _ _ q1 (.inl (h _ o1)), k _ _ q2 (.inl (h _ o2))⟩
  | .seam _ _ _ _ _ _, ⟨a, c, g, e, t, o1, o2, q1, q2⟩ => ⟨a, c, g, e, k _ _ t (.inr rfl), o1, o2, k _ _ q1 (.inl (h _ o1)), k _ _ q2 (.inl (h _ o2))⟩
/-- what a statement's reader is asked -/
structure StW (D : RdAd) (r tl : Addr) (pt : List PT) (bad : Option Nat) (len i : Nat) (t : Toks) (H : Hp) (Q : VK) (E : XK) : Prop where
  R : RdAt D.C H r tl pt i
  hR : Rest bad len (pt.drop i) t
  p5 : pt.length ≤ 5000
  good : ∀ s t' i' H' v, statement t = SeamNum.next (SeamText.sign 59 t') (fun y => .ok (s, y.2)) → Kp [r] H H' → RdAt D.C H' r tl pt i' → Rest bad len (pt.drop i') t' → StR (fun a => H a = none) H' v s → i < i' → Q v H'
  rs : ∀ o, statement t = .error o → RsO D bad len E o
def spMean (D : RdAd) : Sp := fun vs H Q E => ∃ (r tl : Addr) (pt : List PT) (bad : Option Nat) (len i : Nat) (t : Toks) (a : PT) (wd : Bytes), vs = [.ref r, .str (tx wd)] ∧ StW D r tl pt bad len i t H Q E ∧ pt[i]? = some a ∧ a.1 = wd ∧ (wd = wLet ∨ wd = wPoint)
def spOne (D : RdAd) (wd : Bytes) : Sp := fun vs H Q E => ∃ (r tl : Addr) (pt : List PT) (bad : Option Nat) (len i : Nat) (t : Toks) (a : PT), vs = [.ref r] ∧ StW D r tl pt bad len i t H Q E ∧ pt[i]? = some a ∧ a.1 = wd
def spStat (D : RdAd) : Sp := fun vs H Q E => ∃ (r tl : Addr) (pt : List PT) (bad : Option Nat) (len i : Nat) (t : Toks), vs = [.ref r] ∧ StW D r tl pt bad len i t H Q E
def crns (t : Toks) : Got (List Bytes) := SeamNum.next (ownName t) fun c => corners 17 [c.1] c.2
def spCorn (D : RdAd) : Sp := fun vs H Q E => ∃ (r tl : Addr) (pt : List PT) (bad : Option Nat) (len i : Nat) (t : Toks), vs = [.ref r] ∧ RdAt D.C H r tl pt i ∧ Rest bad len (pt.drop i) t ∧
  (∀ l t' i' H' p, crns t = SeamNum.next (SeamText.sign 41 t') (fun y => .ok (l, y.2)) → Kp [r] H H' → RdAt D.C H' r tl pt i' → Rest bad len (pt.drop i') t' → H p = none → H' p = some (strL l) → i < i' → Q (.ref p) H') ∧
  (∀ o, crns t = .error o → RsO D bad len E o)
structure SAd where
  fM : Addr
  dM : FuncData
  fC : Addr
  dC : FuncData
  fP : Addr
  dP : FuncData
  fS : Addr
  dS : FuncData
  fT : Addr
  dT : FuncData
  fD : Addr
  dD : FuncData
structure StT (K : PySem.W.Frag) (w : World) (mg : Str → Option Value) (D : RdAd) (A : FAd) (B : SAd) : Prop where
  T : RcT K mg D A
  TD : PartsD K w mg
  M : Fn1 K mg "read_meaning" sMean ["reader", "word"] B.fM B.dM
  C : Fn1 K mg "read_corners" sCorn ["reader"] B.fC B.dC
  P : Fn1 K mg "read_piece" sPiec ["reader"] B.fP B.dP
  S : Fn1 K mg "read_seam" sSeam ["reader"] B.fS B.dS
  U : Fn1 K mg "read_statement" sStat ["reader"] B.fT B.dT
  Dr : Fn1 K mg "read_draft" sDraft ["t"] B.fD B.dD
  FC : Gi mg "FEWEST_CORNERS" 3
  MC : Gi mg "MOST_CORNERS" 16
  MS : Gi mg "MOST_STATEMENTS" 128
section
variable {P : Program} {w : World} {K : PySem.W.Frag} {mg : Str → Option Value} {base : Heap} {D : RdAd} {A : FAd} {B : SAd}
theorem scMean : FnScope ["reader", "word", "name", "steps"] ["reader", "word"] (defScope sMean) := ⟨rfl, rfl, rfl, by decide +kernel, rfl, by decide +kernel, by decide +kernel⟩
theorem scCorn : FnScope ["reader", "corners"] ["reader"] (defScope sCorn) := ⟨rfl, rfl, rfl, by decide +kernel, rfl, by decide +kernel, by decide +kernel⟩
theorem scPiec : FnScope ["reader", "name", "corners"] ["reader"] (defScope sPiec) := ⟨rfl, rfl, rfl, by decide +kernel, rfl, by decide +kernel, by decide +kernel⟩
theorem scSeam : FnScope ["reader", "first"] ["reader"] (defScope sSeam) := ⟨rfl, rfl, rfl, by decide +kernel, rfl, by decide +kernel, by decide +kernel⟩
theorem scStat : FnScope ["reader", "word"] ["reader"] (defScope sStat) := ⟨rfl, rfl, rfl, by decide +kernel, rfl, by decide +kernel, by decide +kernel⟩
theorem ok_mean (T : StT K w mg D A B) : FnOk P w K mg base (L2N.CX P w) 30 B.fM B.dM ["reader", "word"] (spMean D) := by
  refine okN T.M.F scMean (fun vs H Q E h => ?_) (fun cdv A0 outer s H vs Q E hr h => ?_)
  · obtain ⟨r, tl, pt, bad, len, i, t, a, wd, rfl, _⟩ := h
    rfl
  obtain ⟨r, tl, pt, bad, len, i, t, a, wd, rfl, ⟨R, hR, p5, good, rs⟩, ea, hk, hw⟩ := h
  have hr5 : Room 5 _ := hr.mono (by omega)
  have TC := T.T
  have TR := TC.T
  obtain ⟨hS, hF, hL⟩ := all_g (P := P) (w := w) (base := base) TC T.TD 6
  refine ⟨_, pss_cons (ps_expr (pe_meth (pv 0) TR.cl TR.T.m (ok_take TR) hr5 TR.T.b .nil passN (pa_cons (pv 1) pa_nil)))
    (pss_cons (ps_set (i := 2) scMean.nd rfl (Or.inl rfl) (pe_meth (pv 0) TR.cl TR.T.m (ok_take TR) hr5 TR.T.b .nil passN (pa_cons (pe_gs rfl TR.G.NAME) pa_nil)))
    (pss_cons (ps_expr (pe_meth (pv 0) TR.cl TR.T.m (ok_take TR) hr5 TR.T.b .nil passN (pa_cons pe_str pa_nil)))
    (pss_cons (ps_set (i := 3) scMean.nd rfl (Or.inl rfl) (pe_lst pa_nil))
    (pss_cons (ps_if (pt_cmpR op_eq (pv 1) pe_str (by rfl))
      (pss_one (ps_expr (pe_call hS hr rfl TC.S.m TC.S.F.kp TC.S.b .nil passN (pa_cons (pv 0) (pa_cons pe_int (pa_cons (pv 3) pa_nil))))))
      (pss_one (ps_expr (pe_call hL hr rfl TC.L.m TC.L.F.kp TC.L.b .nil passN (pa_cons (pv 0) (pa_cons pe_int (pa_cons (pv 3) pa_nil)))))))
    (pss_one (ps_ret (pe_tup (pa_cons (pv 1) (pa_cons (pv 2) (pa_cons (pv 3) pa_nil)))))))))), ?_⟩
  have eeq : Str.ofString "=" = tx [61] := by decide +kernel
  have elet : Str.ofString "let" = tx wLet := by decide +kernel
  obtain ⟨a0, ea0, hRa, hi⟩ := rest_get hR
  have e0 : a0 = a := by
    rw [ea0] at ea
    exact Option.some.inj ea
  subst e0
  obtain ⟨⟨dx, er⟩, _⟩ := id R
  refine ⟨_, rfl, r, dx, _, rfl, er, rfl, ?_⟩
  refine pa1i (v := .str (tx wd)) rfl ?_
  refine sp_takeK R ea hk rfl fun H1 k1 R1 => ?_
  -- the words' way
  obtain ⟨G, mk, t1, hR1, ex, hG⟩ : ∃ (G : Goal) (mk : Bytes → SeamText.E → SeamText.St) (t1 : Toks), Rest bad len (pt.drop (i + 1)) t1 ∧ (statement t = SeamNum.next (ownName t1) fun n => SeamNum.next (SeamText.sign 61 n.2) fun x => SeamNum.next (rd 1 G x.2) fun e => SeamNum.next (SeamText.sign 59 e.2) fun y => .ok (mk n.1 e.1, y.2)) ∧ ((wd = wLet ∧ G = .sum ∧ mk = .let_) ∨ (wd = wPoint ∧ G = .place ∧ mk = .point)) := by
    rcases hw with hw | hw
    · obtain ⟨t1, h1, h2⟩ := st_let hRa (hk.trans hw)
      exact ⟨.sum, .let_, t1, h1, h2, .inl ⟨hw, rfl, rfl⟩⟩
    · obtain ⟨t1, h1, h2⟩ := st_point hRa (hk.trans hw)
      exact ⟨.place, .point, t1, h1, h2, .inr ⟨hw, rfl, rfl⟩⟩
  obtain ⟨⟨dx1, er1⟩, _⟩ := id R1
  refine ⟨_, rfl, r, dx1, _, rfl, er1, rfl, ?_⟩
  refine pa1 ?_
  refine sp_take R1 hR1 (fun a h => rest_name h) rfl (fun a2 t2 H2 ea2 hRa2 ex2 hR2 k2 R2 => ?_) (fun o e => rs o (by rw [ex, e]; rfl))
  obtain ⟨⟨dx2, er2⟩, _⟩ := id R2
  refine ⟨_, rfl, r, dx2, _, rfl, er2, rfl, ?_⟩
  refine pa1 ?_
  refine sp_take R2 hR2 (fun a h => rest_sign (c := 61) (by decide +kernel) h) (by rw [eeq]; rfl) (fun a3 t3 H3 ea3 hRa3 ex3 hR3 k3 R3 => ?_) (fun o e => rs o (by rw [ex, ex2]; show SeamNum.next (SeamText.sign 61 t2) _ = _; rw [e]; rfl))
  refine ⟨by show 0 ≤ sizeLine; decide, fun st hst => ?_⟩
  have k13 : Kp [r] H H3 := (k1.trans k2).trans k3
  have kst : Kp ([] : List Addr) H3 (upd H3 st (.lst [])) := Kp.new hst
  obtain ⟨⟨dx3, er3⟩, as3, et3, _⟩ := id R3
  have ne : st ≠ tl := fun z => by rw [z, et3] at hst; cases hst
  have nr : st ≠ r := fun z => by rw [z, er3] at hst; cases hst
  have S4 : PSt D (upd H3 st (.lst [])) r tl st pt bad len (i + 1 + 1 + 1) t3 [] := ⟨R3.kp kst (by simp) (by simp), hR3, ⟨[], upd_same, .nil⟩, ne, Nat.zero_le _, p5⟩
  have hfree : H st = none := k13.free (by simp [nr]) hst
  have ex4 : statement t = SeamNum.next (rd 1 G t3) fun e => SeamNum.next (SeamText.sign 59 e.2) fun y => .ok (mk a2.2.1 e.1, y.2) := by
    rw [ex, ex2]
    show SeamNum.next (SeamText.sign 61 t2) _ = _
    rw [ex3]
    rfl
  refine ⟨_, rfl, rfl, ?_⟩
  rw [elet, dec_str]
  have fin : ∀ e t' i' H', rd 1 G t3 = .ok (e, t') → Kp [r, st] (upd H3 st (.lst [])) H' → RdAt D.C H' r tl pt i' → Rest bad len (pt.drop i') t' → StepL H' st ([] ++ stK (isPl G) e) → (stK (isPl G) e).length + (i + 1 + 1 + 1) ≤ i' → ∀ p, H' p = none → Q (.ref p) (upd H' p (.tup [.str (tx wd), .str (tx a2.2.1), .ref st])) := by
    intro e t' i' H' hx k4 R4 hR4 hS4 hl4 p hp
    have k5 : Kp [r] H H' := Kp.drop (p := st) (k13.trans (Kp.new hst)) (k4.mono (by simp [or_comm])) hfree
    have k6 : Kp ([] : List Addr) H' (upd H' p (.tup [.str (tx wd), .str (tx a2.2.1), .ref st])) := Kp.new hp
    refine good (mk a2.2.1 e) t' i' _ (.ref p) (by rw [ex4, hx]; rfl) (k5.trans (k6.mono (by simp))) (R4.kp k6 (by simp) (by simp)) hR4 ?_ (by omega)
    rcases hG with ⟨hw, hg, hm⟩ | ⟨hw, hg, hm⟩
    · rw [hg] at hS4
      rw [hm]
      exact ⟨p, st, rfl, by rw [upd_same, hw], hfree, hS4.kp k6 (by simp)⟩
    · rw [hg] at hS4
      rw [hm]
      exact ⟨p, st, rfl, by rw [upd_same, hw], hfree, hS4.kp k6 (by simp)⟩
  rcases hG with ⟨hw, hG, _⟩ | ⟨hw, hG, _⟩
  · subst hG
    rw [decide_eq_true hw]
    refine ⟨_, rfl, iteT ?_⟩
    refine ⟨_, rfl, _, rfl, r, tl, st, pt, bad, len, _, t3, [], 1, rfl, S4, by omega, by omega, fun e t' i' H' hx k4 R4 hR4 hS4 hl4 => ?_, fun o hx => rs o (by rw [ex4, hx]; rfl)⟩
    exact ⟨_, rfl, _, rfl, _, rfl, (by show 3 ≤ sizeLine; decide), fun p hp => fin e t' i' H' hx k4 R4 hR4 hS4 hl4 p hp⟩
  · subst hG
    rw [decide_eq_false (by rw [hw]; decide +kernel)]
    refine ⟨_, rfl, iteF ?_⟩
    refine ⟨_, rfl, _, rfl, r, tl, st, pt, bad, len, _, t3, [], 1, rfl, S4, by omega, by omega, fun e t' i' H' hx k4 R4 hR4 hS4 hl4 => ?_, fun o hx => rs o (by rw [ex4, hx]; rfl)⟩
    exact ⟨_, rfl, _, rfl, _, rfl, (by show 3 ≤ sizeLine; decide), fun p hp => fin e t' i' H' hx k4 R4 hR4 hS4 hl4 p hp⟩
end
end SDP
set_option Elab.async false
set_option linter.all false
set_option maxRecDepth 100000
set_option maxHeartbeats 4000000
namespace SDP
open PySem PySem.Spec PyProof.Rows L2 SDX SD TL
open SeamNum (Bytes)
open SeamText (Toks Got isWord signs ownName Goal takesOf wordOf corners statement)
theorem Kp.at_new {M : List Addr} {H H' : Hp} {p : Addr} {o : HO} (k : Kp M H H') (hp : H p = none) : Kp M H (upd H' p o) := fun b u hb hk => by
  rw [upd_ne (ne_of_none hb hp)]
  exact k b u hb hk
theorem lt3 (n : Nat) : decide ((n : Int) < 3) = decide (n < 3) := by
  by_cases h : n < 3
  · rw [decide_eq_true h, decide_eq_true (by omega)]
  · rw [decide_eq_false h, decide_eq_false (by omega)]
theorem lt16 (n : Nat) : decide ((n : Int) < 16) = decide (n < 16) := by
  by_cases h : n < 16
  · rw [decide_eq_true h, decide_eq_true (by omega)]
  · rw [decide_eq_false h, decide_eq_false (by omega)]
section
variable {P : Program} {w : World} {K : PySem.W.Frag} {mg : Str → Option Value} {base : Heap} {D : RdAd} {A : FAd} {B : SAd}
theorem ok_corn (T : StT K w mg D A B) (ml : mg "len" = none) : FnOk P w K mg base (L2N.CX P w) 6 B.fC B.dC ["reader"] (spCorn D) := by
  refine okN T.C.F scCorn (fun vs H Q E h => ?_) (fun cdv A0 outer s H vs Q E hr h => ?_)
  · obtain ⟨r, tl, pt, bad, len, i, t, rfl, _⟩ := h
    rfl
  obtain ⟨r, tl, pt, bad, len, i, t, rfl, R, hR, good, rs⟩ := h
  have hr1 : Room 1 _ := hr.mono (by omega)
  have TR := T.T.T
  refine ⟨_, pss_cons (ps_set (i := 1) scCorn.nd rfl (Or.inl rfl) (pe_lst (pa_cons (pe_meth (pv 0) TR.cl TR.T.m (ok_take TR) hr TR.T.b .nil passN (pa_cons (pe_gs rfl TR.G.NAME) pa_nil)) pa_nil)))
    (pss_cons (ps_while (passes_of rfl) (PW.pt (pw_or (pt_cmpR op_lt (pe_callB call_len_seq rfl ml PySem.boot_len (pa_cons (pv 1) pa_nil)) (pe_gi rfl T.FC) (nomark _))
        (pw_or1 (PW.pt (pw_and (pt_cmpR op_eq (pe_meth0 (pv 0) TR.cl TR.Hh.m (ok_here TR) hr1 TR.Hh.b .nil pass0) pe_str (by rfl)) (pw_and1 (pt_cmpR op_lt (pe_callB call_len_seq rfl ml PySem.boot_len (pa_cons (pv 1) pa_nil)) (pe_gi rfl T.MC) (nomark _))))))))
      (pss_cons (ps_expr (pe_meth (pv 0) TR.cl TR.T.m (ok_take TR) hr TR.T.b .nil passN (pa_cons pe_str pa_nil)))
      (pss_one (ps_expr (pe_bm PySem.F.plainAttrs_list PySem.F.slot_list_append PySem.F.type_list_append mt_append (pv 1) (pa_cons (pe_meth (pv 0) TR.cl TR.T.m (ok_take TR) hr TR.T.b .nil passN (pa_cons (pe_gs rfl TR.G.NAME) pa_nil)) pa_nil))))))
    (pss_one (ps_ret (pv 1)))), ?_⟩
  have e44 : Str.ofString "," = tx [44] := by decide +kernel
  obtain ⟨⟨dx, er⟩, as0, et0, _⟩ := id R
  refine ⟨_, rfl, r, dx, _, rfl, er, rfl, ?_⟩
  refine pa1 ?_
  refine sp_take R hR (fun a h => rest_name h) rfl (fun a1 t1 H1 ea1 hRa1 ex1 hR1 k1 R1 => ?_) (fun o e => rs o (by unfold crns; rw [e]; rfl))
  refine ⟨by show 1 ≤ sizeLine; decide, fun p hp => ?_⟩
  obtain ⟨⟨dx1, er1⟩, as1, et1, _⟩ := id R1
  have npr : p ≠ r := fun z => by rw [z, er1] at hp; cases hp
  have npt : p ≠ tl := fun z => by rw [z, et1] at hp; cases hp
  have hp : H p = none := k1.free (by simp [npr]) hp
  have kn : Kp ([] : List Addr) H1 (upd H1 p (.lst [.str (tx a1.2.1)])) := Kp.new (by assumption)
  refine ⟨fun m σ H' => ∃ (l : List Bytes) (t1 : Toks) (i1 f : Nat), σ = [some (.ref r), some (.ref p)] ∧ Kp [r] H H' ∧ RdAt D.C H' r tl pt i1 ∧ Rest bad len (pt.drop i1) t1 ∧ H' p = some (strL l) ∧ 1 ≤ l.length ∧ l.length ≤ 16 ∧ 17 ≤ f + l.length ∧
      crns t = corners f l t1 ∧ i < i1 ∧ m = pt.length - i1, ⟨_, [a1.2.1], t1, i + 1, 17, rfl, k1.at_new hp, R1.kp kn (by simp) (by simp), hR1, upd_same, by simp, by simp, by simp, by unfold crns; rw [ex1]; rfl, by omega, rfl⟩, ?_⟩
  rintro m σ H1 ⟨l, t1, i1, f0, rfl, k1, R1, hR1, hl, h1, h16, hf, ex, hi1, rfl⟩
  obtain ⟨f, rfl⟩ : ∃ f, f0 = f + 1 := ⟨f0 - 1, by omega⟩
  obtain ⟨a, ea, hRa, hia⟩ := rest_get hR1
  obtain ⟨⟨dx, er⟩, _⟩ := id R1
  have elen : (l.map fun b => V.str (tx b)).length = l.length := List.length_map ..
  refine ⟨_, rfl, p, _, rfl, .inl (SqL.of hl), _, _, rfl, rfl, _, rfl, ?_⟩
  rw [elen]
  refine ite2 (fun c => ?_) (fun c => ?_)
  · have c3 : l.length < 3 := by have := of_decide_eq_true c; omega
    refine iteT ⟨_, fun _ _ h => h, ?_⟩
    have ex4 : crns t = SeamNum.next (SeamText.sign 44 t1) fun x => SeamNum.next (ownName x.2) fun b => corners f (l ++ [b.1]) b.2 := by rw [ex, crn_go hRa (.inl c3)]
    refine ⟨_, rfl, r, dx, _, rfl, er, rfl, ?_⟩
    refine pa1 ?_
    refine sp_take R1 hR1 (fun a h => rest_sign (c := 44) (by decide +kernel) h) (by first | (rw [e44]; rfl) | rfl) (fun a2 t2 H2 ea2 hRa2 ex2 hR2 k2 R2 => ?_) (fun o e => rs o (by rw [ex4, e]; rfl))
    have hl2 : H2 p = some (strL l) := k2 _ _ hl (.inl (by simp [npr]))
    obtain ⟨⟨dx2, er2⟩, _⟩ := id R2
    refine ⟨_, rfl, .inl ⟨rfl, _, SqL.of hl2⟩, _, rfl, r, dx2, _, rfl, er2, rfl, ?_⟩
    refine pa1 ?_
    refine sp_take R2 hR2 (fun a h => rest_name h) rfl (fun a3 t3 H3 ea3 hRa3 ex3 hR3 k3 R3 => ?_) (fun o e => rs o (by rw [ex4, ex2]; show SeamNum.next (ownName t2) _ = _; rw [e]; rfl))
    have hl3 : H3 p = some (strL l) := k3 _ _ hl2 (.inl (by simp [npr]))
    refine ⟨p, _, _, rfl, rfl, hl3, by rw [List.length_map, sizeLine_eq]; omega, ?_⟩
    obtain ⟨_, _, _, hi3⟩ := rest_get hR3
    have kp : Kp [p] H3 (upd H3 p (.lst (l.map (fun b => V.str (tx b)) ++ [V.str (tx a3.2.1)]))) := Kp.put hl3 rfl (by simp)
    refine ⟨_, ?_, l ++ [a3.2.1], t3, i1 + 1 + 1, f, rfl, ((k1.trans k2).trans k3).at_new hp, R3.kp kp (by simp [npr.symm]) (by simp [npt.symm]), hR3, ?_, ?_, ?_, ?_, ?_, by omega, rfl⟩
    · omega
    · rw [upd_same]
      unfold strL
      rw [List.map_append]
      rfl
    · rw [List.length_append]; omega
    · rw [List.length_append, List.length_singleton]; omega
    · rw [List.length_append, List.length_singleton]; omega
    · rw [ex4, ex2]
      show SeamNum.next (ownName t2) _ = _
      rw [ex3]
      rfl
  have c3 : ¬ l.length < 3 := by have := of_decide_eq_false (Bool.eq_false_iff.mpr c); omega
  refine ⟨_, rfl, r, dx, _, rfl, er, rfl, r, tl, pt, i1, a, rfl, R1, ea, rfl, ?_⟩
  rw [e44, dec_str]
  by_cases c44 : a.1 = [44]
  · rw [decide_eq_true c44]
    refine ⟨_, rfl, iteT ?_⟩
    refine ⟨_, rfl, p, _, rfl, .inl (SqL.of hl), _, _, rfl, rfl, _, rfl, ?_⟩
    rw [elen]
    refine ite2 (fun c => ?_) (fun c => ?_)
    · have c16 : l.length < 16 := by have := of_decide_eq_true c; omega
      refine ⟨_, fun _ _ h => h, ?_⟩
      have ex4 : crns t = SeamNum.next (SeamText.sign 44 t1) fun x => SeamNum.next (ownName x.2) fun b => corners f (l ++ [b.1]) b.2 := by rw [ex, crn_go hRa (.inr ⟨c44, c16⟩)]
      refine ⟨_, rfl, r, dx, _, rfl, er, rfl, ?_⟩
      refine pa1 ?_
      refine sp_take R1 hR1 (fun a h => rest_sign (c := 44) (by decide +kernel) h) (by first | (rw [e44]; rfl) | rfl) (fun a2 t2 H2 ea2 hRa2 ex2 hR2 k2 R2 => ?_) (fun o e => rs o (by rw [ex4, e]; rfl))
      have hl2 : H2 p = some (strL l) := k2 _ _ hl (.inl (by simp [npr]))
      obtain ⟨⟨dx2, er2⟩, _⟩ := id R2
      refine ⟨_, rfl, .inl ⟨rfl, _, SqL.of hl2⟩, _, rfl, r, dx2, _, rfl, er2, rfl, ?_⟩
      refine pa1 ?_
      refine sp_take R2 hR2 (fun a h => rest_name h) rfl (fun a3 t3 H3 ea3 hRa3 ex3 hR3 k3 R3 => ?_) (fun o e => rs o (by rw [ex4, ex2]; show SeamNum.next (ownName t2) _ = _; rw [e]; rfl))
      have hl3 : H3 p = some (strL l) := k3 _ _ hl2 (.inl (by simp [npr]))
      refine ⟨p, _, _, rfl, rfl, hl3, by rw [List.length_map, sizeLine_eq]; omega, ?_⟩
      obtain ⟨_, _, _, hi3⟩ := rest_get hR3
      have kp : Kp [p] H3 (upd H3 p (.lst (l.map (fun b => V.str (tx b)) ++ [V.str (tx a3.2.1)]))) := Kp.put hl3 rfl (by simp)
      refine ⟨_, ?_, l ++ [a3.2.1], t3, i1 + 1 + 1, f, rfl, ((k1.trans k2).trans k3).at_new hp, R3.kp kp (by simp [npr.symm]) (by simp [npt.symm]), hR3, ?_, ?_, ?_, ?_, ?_, by omega, rfl⟩
      · omega
      · rw [upd_same]
        unfold strL
        rw [List.map_append]
        rfl
      · rw [List.length_append]; omega
      · rw [List.length_append, List.length_singleton]; omega
      · rw [List.length_append, List.length_singleton]; omega
      · rw [ex4, ex2]
        show SeamNum.next (ownName t2) _ = _
        rw [ex3]
        rfl
    · have c16 : ¬ l.length < 16 := by have := of_decide_eq_false (Bool.eq_false_iff.mpr c); omega
      refine ⟨_, rfl, ?_⟩
      exact good l t1 i1 H1 p (by rw [ex, crn_end hRa (fun z => z.elim c3 fun z => c16 z.2)]) k1 R1 hR1 hp hl hi1
  · rw [decide_eq_false c44]
    refine ⟨_, rfl, iteF (iteF ?_)⟩
    refine ⟨_, rfl, ?_⟩
    exact good l t1 i1 H1 p (by rw [ex, crn_end hRa (fun z => z.elim c3 fun z => c44 z.1)]) k1 R1 hR1 hp hl hi1
end
end SDP
set_option Elab.async false
set_option linter.all false
set_option maxRecDepth 100000
set_option maxHeartbeats 4000000
namespace SDP
open PySem PySem.Spec PyProof.Rows L2 SDX SD TL
open SeamNum (Bytes)
open SeamText (Toks Got isWord signs ownName Goal takesOf wordOf corners statement)
section
variable {P : Program} {w : World} {K : PySem.W.Frag} {mg : Str → Option Value} {base : Heap} {D : RdAd} {A : FAd} {B : SAd}
theorem two_of {l : List Bytes} (h : l.length = 2) : l = [l.getD 0 [], l.getD 1 []] := by
  match l, h with
  | [a, b], _ => rfl
theorem three_of {l : List Bytes} (h : l.length = 3) : l = [l.getD 0 [], l.getD 1 [], l.getD 2 []] := by
  match l, h with
  | [a, b, c], _ => rfl
theorem ok_piec (T : StT K w mg D A B) (ml : mg "len" = none) : FnOk P w K mg base (L2N.CX P w) 30 B.fP B.dP ["reader"] (spOne D wPiece) := by
  refine okN T.P.F scPiec (fun vs H Q E h => ?_) (fun cdv A0 outer s H vs Q E hr h => ?_)
  · obtain ⟨r, tl, pt, bad, len, i, t, a, rfl, _⟩ := h
    rfl
  obtain ⟨r, tl, pt, bad, len, i, t, a, rfl, ⟨R, hR, p5, good, rs⟩, ea, hk⟩ := h
  have hr5 : Room 5 _ := hr.mono (by omega)
  have hr6 : Room 6 _ := hr.mono (by omega)
  have TR := T.T.T
  refine ⟨_, pss_cons (ps_expr (pe_meth (pv 0) TR.cl TR.T.m (ok_take TR) hr5 TR.T.b .nil passN (pa_cons pe_str pa_nil)))
    (pss_cons (ps_set (i := 1) scPiec.nd rfl (Or.inl rfl) (pe_meth (pv 0) TR.cl TR.T.m (ok_take TR) hr5 TR.T.b .nil passN (pa_cons (pe_gs rfl TR.G.NAME) pa_nil)))
    (pss_cons (ps_expr (pe_meth (pv 0) TR.cl TR.T.m (ok_take TR) hr5 TR.T.b .nil passN (pa_cons pe_str pa_nil)))
    (pss_cons (ps_set (i := 2) scPiec.nd rfl (Or.inl rfl) (pe_call (ok_corn T ml) hr6 rfl T.C.m T.C.F.kp T.C.b .nil passN (pa_cons (pv 0) pa_nil)))
    (pss_cons (ps_expr (pe_meth (pv 0) TR.cl TR.T.m (ok_take TR) hr5 TR.T.b .nil passN (pa_cons pe_str pa_nil)))
    (pss_cons (ps_expr (pe_meth (pv 0) TR.cl TR.T.m (ok_take TR) hr5 TR.T.b .nil passN (pa_cons pe_str pa_nil)))
    (pss_one (ps_ret (pe_tup (pa_cons pe_str (pa_cons (pv 1) (pa_cons (pv 2) (pa_cons (pe_meth (pv 0) TR.cl TR.N.m (ok_takeN TR) hr6 TR.N.b .nil passN (pa_cons pe_int pa_nil)) pa_nil)))))))))))), ?_⟩
  have epi : Str.ofString "piece" = tx wPiece := by decide +kernel
  have epar : Str.ofString "(" = tx [40] := by decide +kernel
  have eend : Str.ofString ")" = tx [41] := by decide +kernel
  have egr : Str.ofString "grain" = tx SeamText.GRAIN := by decide +kernel
  obtain ⟨a0, ea0, hRa, hi⟩ := rest_get hR
  have e0 : a0 = a := by
    rw [ea0] at ea
    exact Option.some.inj ea
  subst e0
  obtain ⟨t1, hR1, ex⟩ := st_piece hRa hk
  obtain ⟨⟨dx, er⟩, _⟩ := id R
  refine ⟨_, rfl, r, dx, _, rfl, er, rfl, ?_⟩
  refine pa1 ?_
  refine sp_takeK R ea0 hk (by rw [epi]; rfl) fun H1 k1 R1 => ?_
  obtain ⟨⟨dx1, er1⟩, _⟩ := id R1
  refine ⟨_, rfl, r, dx1, _, rfl, er1, rfl, ?_⟩
  refine pa1 ?_
  refine sp_take R1 hR1 (fun a h => rest_name h) rfl (fun a2 t2 H2 ea2 hRa2 ex2 hR2 k2 R2 => ?_) (fun o e => rs o (by rw [ex, e]; rfl))
  have exA : statement t = SeamNum.next (SeamText.sign 40 t2) fun x => SeamNum.next (crns x.2) fun l => SeamNum.next (SeamText.word SeamText.GRAIN l.2) fun g => SeamNum.next (takeN 2 g.2) fun ab => SeamNum.next (SeamText.sign 59 ab.2) fun y => .ok (.piece a2.2.1 l.1 (ab.1.getD 0 []) (ab.1.getD 1 []), y.2) := by
    rw [ex, ex2]
    rfl
  obtain ⟨⟨dx2, er2⟩, _⟩ := id R2
  refine ⟨_, rfl, r, dx2, _, rfl, er2, rfl, ?_⟩
  refine pa1 ?_
  refine sp_take R2 hR2 (fun a h => rest_sign (c := 40) (by decide +kernel) h) (by rw [epar]; rfl) (fun a3 t3 H3 ea3 hRa3 ex3 hR3 k3 R3 => ?_) (fun o e => rs o (by rw [exA, e]; rfl))
  have exB : statement t = SeamNum.next (crns t3) fun l => SeamNum.next (SeamText.word SeamText.GRAIN l.2) fun g => SeamNum.next (takeN 2 g.2) fun ab => SeamNum.next (SeamText.sign 59 ab.2) fun y => .ok (.piece a2.2.1 l.1 (ab.1.getD 0 []) (ab.1.getD 1 []), y.2) := by
    rw [exA, ex3]
    rfl
  refine ⟨_, rfl, r, tl, pt, bad, len, _, t3, rfl, R3, hR3, fun cs t4 i4 H4 c ecs k4 R4 hR4 hc hc4 hi4 => ?_, fun o e => rs o (by rw [exB, e]; rfl)⟩
  have exC : statement t = SeamNum.next (SeamText.sign 41 t4) fun y => SeamNum.next (SeamText.word SeamText.GRAIN y.2) fun g => SeamNum.next (takeN 2 g.2) fun ab => SeamNum.next (SeamText.sign 59 ab.2) fun y => .ok (.piece a2.2.1 cs (ab.1.getD 0 []) (ab.1.getD 1 []), y.2) := by
    rw [exB, ecs, next_next]
    rfl
  obtain ⟨⟨dx4, er4⟩, _⟩ := id R4
  obtain ⟨⟨dx3, er3⟩, _⟩ := id R3
  have ncr : c ≠ r := fun z => by rw [z, er3] at hc; cases hc
  refine ⟨_, rfl, r, dx4, _, rfl, er4, rfl, ?_⟩
  refine pa1 ?_
  refine sp_take R4 hR4 (fun a h => rest_sign (c := 41) (by decide +kernel) h) (by rw [eend]; rfl) (fun a5 t5 H5 ea5 hRa5 ex5 hR5 k5 R5 => ?_) (fun o e => rs o (by rw [exC, e]; rfl))
  obtain ⟨⟨dx5, er5⟩, _⟩ := id R5
  refine ⟨_, rfl, r, dx5, _, rfl, er5, rfl, ?_⟩
  refine pa1 ?_
  refine sp_take R5 hR5 (fun a h => rest_word (w := SeamText.GRAIN) (by decide +kernel) h) (by rw [egr]; rfl) (fun a6 t6 H6 ea6 hRa6 ex6 hR6 k6 R6 => ?_) (fun o e => rs o (by rw [exC, ex5]; show SeamNum.next (SeamText.word SeamText.GRAIN t5) _ = _; rw [e]; rfl))
  have exD : statement t = SeamNum.next (takeN 2 t6) fun ab => SeamNum.next (SeamText.sign 59 ab.2) fun y => .ok (.piece a2.2.1 cs (ab.1.getD 0 []) (ab.1.getD 1 []), y.2) := by
    rw [exC, ex5]
    show SeamNum.next (SeamText.word SeamText.GRAIN t5) _ = _
    rw [ex6]
    rfl
  obtain ⟨⟨dx6, er6⟩, _⟩ := id R6
  refine ⟨_, rfl, _, rfl, _, rfl, r, dx6, _, rfl, er6, rfl, r, tl, pt, _, 2, bad, len, t6, rfl, by omega, R6, hR6, fun l t7 H7 g el ln k7 R7 hR7 hg hg7 => ?_, fun o e => rs o (by rw [exD, e]; rfl)⟩
  refine ⟨by show 4 ≤ sizeLine; decide, fun p hp => ?_⟩
  have k16 : Kp [r] H H6 := ((((k1.trans k2).trans k3).trans k4).trans k5).trans k6
  have k07 : Kp [r] H H7 := k16.trans k7
  have ngr : g ≠ r := fun z => by rw [z, er6] at hg; cases hg
  have kp : Kp ([] : List Addr) H7 (upd H7 p (.tup [.str (Str.ofString "piece"), .str (tx a2.2.1), .ref c, .ref g])) := Kp.new hp
  refine good (.piece a2.2.1 cs (l.getD 0 []) (l.getD 1 [])) t7 _ _ (.ref p) (by rw [exD, el]; rfl) (k07.trans (kp.mono (by simp))) (R7.kp kp (by simp) (by simp)) hR7 ?_ (by omega)
  have k47 : Kp [r] H4 H7 := (k5.trans k6).trans k7
  refine ⟨p, c, g, rfl, by rw [upd_same, epi], ((k1.trans k2).trans k3).free (by simp [ncr]) hc, k16.free (by simp [ngr]) hg, kp _ _ (k47 _ _ hc4 (.inl (by simp [ncr]))) (.inl (by simp)), ?_⟩
  refine kp _ _ ?_ (.inl (by simp))
  rw [← two_of ln]
  exact hg7
theorem ok_seam (T : StT K w mg D A B) : FnOk P w K mg base (L2N.CX P w) 30 B.fS B.dS ["reader"] (spOne D wSeam) := by
  refine okN T.S.F scSeam (fun vs H Q E h => ?_) (fun cdv A0 outer s H vs Q E hr h => ?_)
  · obtain ⟨r, tl, pt, bad, len, i, t, a, rfl, _⟩ := h
    rfl
  obtain ⟨r, tl, pt, bad, len, i, t, a, rfl, ⟨R, hR, p5, good, rs⟩, ea, hk⟩ := h
  have hr5 : Room 5 _ := hr.mono (by omega)
  have hr6 : Room 6 _ := hr.mono (by omega)
  have TR := T.T.T
  refine ⟨_, pss_cons (ps_expr (pe_meth (pv 0) TR.cl TR.T.m (ok_take TR) hr5 TR.T.b .nil passN (pa_cons pe_str pa_nil)))
    (pss_cons (ps_set (i := 1) scSeam.nd rfl (Or.inl rfl) (pe_meth (pv 0) TR.cl TR.N.m (ok_takeN TR) hr6 TR.N.b .nil passN (pa_cons pe_int pa_nil)))
    (pss_cons (ps_expr (pe_meth (pv 0) TR.cl TR.T.m (ok_take TR) hr5 TR.T.b .nil passN (pa_cons pe_str pa_nil)))
    (pss_one (ps_ret (pe_tup (pa_cons pe_str (pa_cons (pv 1) (pa_cons (pe_meth (pv 0) TR.cl TR.N.m (ok_takeN TR) hr6 TR.N.b .nil passN (pa_cons pe_int pa_nil)) pa_nil)))))))), ?_⟩
  have ese : Str.ofString "seam" = tx wSeam := by decide +kernel
  have e44 : Str.ofString "," = tx [44] := by decide +kernel
  obtain ⟨a0, ea0, hRa, hi⟩ := rest_get hR
  have e0 : a0 = a := by
    rw [ea0] at ea
    exact Option.some.inj ea
  subst e0
  obtain ⟨t1, hR1, ex⟩ := st_seam hRa hk
  obtain ⟨⟨dx, er⟩, _⟩ := id R
  refine ⟨_, rfl, r, dx, _, rfl, er, rfl, ?_⟩
  refine pa1 ?_
  refine sp_takeK R ea0 hk (by rw [ese]; rfl) fun H1 k1 R1 => ?_
  obtain ⟨⟨dx1, er1⟩, _⟩ := id R1
  refine ⟨_, rfl, r, dx1, _, rfl, er1, rfl, r, tl, pt, _, 3, bad, len, t1, rfl, by omega, R1, hR1, fun l t2 H2 f el ln k2 R2 hR2 hf hf2 => ?_, fun o e => rs o (by rw [ex, e]; rfl)⟩
  have nfr : f ≠ r := fun z => by rw [z, er1] at hf; cases hf
  have exA : statement t = SeamNum.next (SeamText.sign 44 t2) fun x => SeamNum.next (takeN 3 x.2) fun v => SeamNum.next (SeamText.sign 59 v.2) fun y => .ok (.seam (l.getD 0 []) (l.getD 1 []) (l.getD 2 []) (v.1.getD 0 []) (v.1.getD 1 []) (v.1.getD 2 []), y.2) := by
    rw [ex, el]
    rfl
  obtain ⟨⟨dx2, er2⟩, _⟩ := id R2
  refine ⟨_, rfl, r, dx2, _, rfl, er2, rfl, ?_⟩
  refine pa1 ?_
  refine sp_take R2 hR2 (fun a h => rest_sign (c := 44) (by decide +kernel) h) (by rw [e44]; rfl) (fun a3 t3 H3 ea3 hRa3 ex3 hR3 k3 R3 => ?_) (fun o e => rs o (by rw [exA, e]; rfl))
  have exB : statement t = SeamNum.next (takeN 3 t3) fun v => SeamNum.next (SeamText.sign 59 v.2) fun y => .ok (.seam (l.getD 0 []) (l.getD 1 []) (l.getD 2 []) (v.1.getD 0 []) (v.1.getD 1 []) (v.1.getD 2 []), y.2) := by
    rw [exA, ex3]
    rfl
  obtain ⟨⟨dx3, er3⟩, _⟩ := id R3
  refine ⟨_, rfl, _, rfl, r, dx3, _, rfl, er3, rfl, r, tl, pt, _, 3, bad, len, t3, rfl, by omega, R3, hR3, fun l2 t4 H4 g el2 ln2 k4 R4 hR4 hg hg4 => ?_, fun o e => rs o (by rw [exB, e]; rfl)⟩
  refine ⟨by show 3 ≤ sizeLine; decide, fun p hp => ?_⟩
  have k03 : Kp [r] H H3 := (k1.trans k2).trans k3
  have ngr : g ≠ r := fun z => by rw [z, er3] at hg; cases hg
  have kp : Kp ([] : List Addr) H4 (upd H4 p (.tup [.str (Str.ofString "seam"), .ref f, .ref g])) := Kp.new hp
  refine good (.seam (l.getD 0 []) (l.getD 1 []) (l.getD 2 []) (l2.getD 0 []) (l2.getD 1 []) (l2.getD 2 [])) t4 _ _ (.ref p) (by rw [exB, el2]; rfl) ((k03.trans k4).trans (kp.mono (by simp))) (R4.kp kp (by simp) (by simp)) hR4 ?_ (by omega)
  refine ⟨p, f, g, rfl, by rw [upd_same, ese], k1.free (by simp [nfr]) hf, k03.free (by simp [ngr]) hg, kp _ _ ((k3.trans k4) _ _ ?_ (.inl (by simp [nfr]))) (.inl (by simp)), kp _ _ ?_ (.inl (by simp))⟩
  · rw [← three_of ln]
    exact hf2
  · rw [← three_of ln2]
    exact hg4
theorem ok_stat (T : StT K w mg D A B) (ml : mg "len" = none) : FnOk P w K mg base (L2N.CX P w) 31 B.fT B.dT ["reader"] (spStat D) := by
  refine okN T.U.F scStat (fun vs H Q E h => ?_) (fun cdv A0 outer s H vs Q E hr h => ?_)
  · obtain ⟨r, tl, pt, bad, len, i, t, rfl, _⟩ := h
    rfl
  obtain ⟨r, tl, pt, bad, len, i, t, rfl, S⟩ := h
  have hr1 : Room 1 _ := hr.mono (by omega)
  have hr4 : Room 4 _ := hr.mono (by omega)
  have TR := T.T.T
  refine ⟨_, pss_cons (ps_set (i := 1) scStat.nd rfl (Or.inl rfl) (pe_meth0 (pv 0) TR.cl TR.Hh.m (ok_here TR) hr1 TR.Hh.b .nil pass0))
    (pss_cons (ps_if (pt_cmpR op_in_seq (pv 1) (pe_tup (pa_cons pe_str (pa_cons pe_str pa_nil))) (by rfl)) (pss_one (ps_ret (pe_call (ok_mean T) hr rfl T.M.m T.M.F.kp T.M.b .nil passN (pa_cons (pv 0) (pa_cons (pv 1) pa_nil))))) pss_nil)
    (pss_cons (ps_if (pt_cmpR op_eq (pv 1) pe_str (by rfl)) (pss_one (ps_ret (pe_call (ok_piec T ml) hr rfl T.P.m T.P.F.kp T.P.b .nil passN (pa_cons (pv 0) pa_nil)))) pss_nil)
    (pss_cons (ps_if (pt_cmpR op_eq (pv 1) pe_str (by rfl)) (pss_one (ps_ret (pe_call (ok_seam T) hr rfl T.S.m T.S.F.kp T.S.b .nil passN (pa_cons (pv 0) pa_nil)))) pss_nil)
    (pss_one (ps_ret (pe_meth0 (pv 0) TR.cl TR.R.m (ok_refuse TR) hr4 TR.R.b .nil passN)))))), ?_⟩
  have elet : Str.ofString "let" = tx wLet := by decide +kernel
  have epo : Str.ofString "point" = tx wPoint := by decide +kernel
  have epi : Str.ofString "piece" = tx wPiece := by decide +kernel
  have ese : Str.ofString "seam" = tx wSeam := by decide +kernel
  obtain ⟨a, ea, hRa, hi⟩ := rest_get S.hR
  obtain ⟨⟨dx, er⟩, _⟩ := id S.R
  refine ⟨_, rfl, r, dx, _, rfl, er, rfl, r, tl, pt, i, a, rfl, S.R, ea, ?_⟩
  refine ⟨_, rfl, (by show 2 ≤ sizeLine; decide), fun p hp => ?_⟩
  have kA : Kp ([] : List Addr) H (upd H p (.tup [.str (Str.ofString "let"), .str (Str.ofString "point")])) := Kp.new hp
  refine ⟨p, _, rfl, .inr (SqT.of upd_same), rfl, rfl, ?_⟩
  rw [elet, epo] at kA ⊢
  have ein : inV (V.str (tx a.1)) [V.str (tx wLet), V.str (tx wPoint)] = ([wLet, wPoint] : List Bytes).contains a.1 := inV_tx a.1 [wLet, wPoint]
  generalize upd H p (.tup [.str (tx wLet), .str (tx wPoint)]) = H2 at kA ⊢
  rw [if_neg Bool.false_ne_true, ein]
  have R2 := S.R.kp kA (by simp) (by simp)
  have S2 : StW D r tl pt bad len i t H2 Q E := ⟨R2, S.hR, S.p5, fun s t' i' H' v e k R' hR' st h => S.good s t' i' H' v e ((kA.mono (by simp)).trans k) R' hR' (st.imp fun a ha => kA.free (by simp) ha) h, S.rs⟩
  obtain ⟨⟨dx2, er2⟩, _⟩ := id R2
  by_cases hc : ([wLet, wPoint] : List Bytes).contains a.1 = true
  · rw [hc]
    refine ⟨_, rfl, iteT ?_⟩
    refine ⟨_, rfl, _, rfl, r, tl, pt, bad, len, i, t, a, a.1, rfl, S2, ea, rfl, ?_⟩
    rw [List.contains_iff_mem] at hc
    simpa using hc
  rw [Bool.eq_false_iff.mpr hc]
  have n1 : a.1 ≠ wLet := fun z => hc (by rw [z]; decide +kernel)
  have n2 : a.1 ≠ wPoint := fun z => hc (by rw [z]; decide +kernel)
  refine ⟨_, rfl, iteF ?_⟩
  refine ⟨_, rfl, rfl, ?_⟩
  rw [epi, dec_str]
  by_cases h3 : a.1 = wPiece
  · rw [decide_eq_true h3]
    exact ⟨_, rfl, iteT ⟨_, rfl, r, tl, pt, bad, len, i, t, a, rfl, S2, ea, h3⟩⟩
  rw [decide_eq_false h3]
  refine ⟨_, rfl, iteF ?_⟩
  refine ⟨_, rfl, rfl, ?_⟩
  rw [ese, dec_str]
  by_cases h4 : a.1 = wSeam
  · rw [decide_eq_true h4]
    exact ⟨_, rfl, iteT ⟨_, rfl, r, tl, pt, bad, len, i, t, a, rfl, S2, ea, h4⟩⟩
  rw [decide_eq_false h4]
  refine ⟨_, rfl, iteF ?_⟩
  obtain ⟨o, e, eo⟩ := st_other hRa n1 n2 h3 h4
  exact ⟨_, rfl, r, dx2, _, rfl, er2, rfl, r, tl, pt, i, a, rfl, R2, ea, RsO.of eo (S.rs o e)⟩
end
end SDP
set_option Elab.async false
set_option linter.all false
set_option maxRecDepth 100000
set_option maxHeartbeats 4000000
/-! # Answers -/
namespace SDP
open PySem PySem.Spec PyProof.Rows L2 SDX SD TL
open SeamNum (Bytes)
theorem same_kp {M : List Addr} {H H1 H2 : Hp} (s : Same H H1) (k : Kp M H1 H2) (h : ∀ m ∈ M, H m = none) : Same H H2 := fun b o hb => k b o (s b o hb) (.inl fun z => by rw [h b z] at hb; cases hb)
def spAnsw : Sp := fun vs H Q _ => ∃ (n : Int) (tp sp : Addr) (ts ss : List V), vs = [.int n, .ref tp, .ref sp] ∧ H tp = some (.lst ts) ∧ H sp = some (.lst ss) ∧ ts.length ≤ 10000000 ∧ ss.length ≤ 1000 ∧
  ∀ (H' : Hp) (p : Addr), Same H H' → H' p = some (.lst ([.int n, .int ts.length] ++ ts ++ [.int ss.length] ++ ss)) → Q (.ref p) H'
theorem roomH_mk {k : Nat} {A : Around} (r : Room k A) (h : Option Value) : L2H.RoomH k (A.mark h) := ⟨r.dp, r.un⟩
theorem passAt0 {X : Cx} {E : XK} (σ : L2.St) : PassesAt CX0 X σ E := fun _ _ _ _ _ _ h => h.elim
theorem answ_pure {K : PySem.W.Frag} {D : Ends} {n : Int} {tp sp : Addr} {ts ss : List V} {H : Hp} (h1 : H tp = some (.lst ts)) (h2 : H sp = some (.lst ss)) (l1 : ts.length ≤ 10000000) (l2 : ss.length ≤ 1000)
    (q : ∀ (H' : Hp) (p : Addr), Same H H' → H' p = some (.lst ([.int n, .int ts.length] ++ ts ++ [.int ss.length] ++ ss)) → D.rt (.ref p) H') :
    tRet (tOp rCat (tOp rCat (tOp rCat (tLst (tCons (tVar 0) (tCons (fun σ H Q => (tCons (tVar 1) tNil) σ H fun xs H1 => ∃ p ys, xs = [.ref p] ∧ (SqL K H1 p ys ∨ SqT K H1 p ys) ∧ Q (.int ys.length) H1) tNil))) (tVar 1))
      (tLst (tCons (fun σ H Q => (tCons (tVar 2) tNil) σ H fun xs H1 => ∃ p ys, xs = [.ref p] ∧ (SqL K H1 p ys ∨ SqT K H1 p ys) ∧ Q (.int ys.length) H1) tNil))) (tVar 2)) D [some (.int n), some (.ref tp), some (.ref sp)] H := by
  refine ⟨_, rfl, _, rfl, tp, _, rfl, .inl (SqL.of h1), (by show 2 ≤ sizeLine; decide), fun p1 hp1 => ?_⟩
  have s1 : Same H (upd H p1 (.lst [.int n, .int ts.length])) := same_new hp1 _
  have e1 : (upd H p1 (.lst [.int n, .int ts.length])) p1 = some (.lst [.int n, .int ts.length]) := upd_same
  generalize upd H p1 (.lst [.int n, .int ts.length]) = H1 at s1 e1 ⊢
  refine ⟨_, rfl, p1, tp, _, _, rfl, rfl, e1, s1 _ _ h1, by rw [sizeLine_eq]; show 2 + _ ≤ _; omega, fun p2 hp2 => ?_⟩
  have s2 : Same H1 (upd H1 p2 (.lst ([.int n, .int ts.length] ++ ts))) := same_new hp2 _
  have e2 : (upd H1 p2 (.lst ([.int n, .int ts.length] ++ ts))) p2 = some (.lst ([.int n, .int ts.length] ++ ts)) := upd_same
  generalize upd H1 p2 (.lst ([.int n, .int ts.length] ++ ts)) = H2 at s2 e2 ⊢
  refine ⟨_, rfl, sp, _, rfl, .inl (SqL.of (s2 _ _ (s1 _ _ h2))), (by show 1 ≤ sizeLine; decide), fun p3 hp3 => ?_⟩
  have s3 : Same H2 (upd H2 p3 (.lst [.int ss.length])) := same_new hp3 _
  have e3 : (upd H2 p3 (.lst [.int ss.length])) p3 = some (.lst [.int ss.length]) := upd_same
  generalize upd H2 p3 (.lst [.int ss.length]) = H3 at s3 e3 ⊢
  refine ⟨p2, p3, _, _, rfl, rfl, s3 _ _ e2, e3, by rw [sizeLine_eq, List.length_append]; show 2 + _ + 1 ≤ _; omega, fun p4 hp4 => ?_⟩
  have s4 : Same H3 (upd H3 p4 (.lst ([.int n, .int ts.length] ++ ts ++ [.int ss.length]))) := same_new hp4 _
  have e4 : (upd H3 p4 (.lst ([.int n, .int ts.length] ++ ts ++ [.int ss.length]))) p4 = some (.lst ([.int n, .int ts.length] ++ ts ++ [.int ss.length])) := upd_same
  generalize upd H3 p4 (.lst ([.int n, .int ts.length] ++ ts ++ [.int ss.length])) = H4 at s4 e4 ⊢
  refine ⟨_, rfl, p4, sp, _, _, rfl, rfl, e4, s4 _ _ (s3 _ _ (s2 _ _ (s1 _ _ h2))), by rw [sizeLine_eq, List.length_append, List.length_append]; show 2 + _ + 1 + _ ≤ _; omega, fun p5 hp5 => ?_⟩
  exact q _ p5 ((((s1.trans s2).trans s3).trans s4).trans (same_new hp5 _)) upd_same
section
variable {P : Program} {w : World} {K : PySem.W.Frag} {mg : Str → Option Value} {base : Heap}
theorem scAnsw : FnScope ["number", "told", "signed"] ["number", "told", "signed"] (defScope sAnsw) := ⟨rfl, rfl, rfl, by decide +kernel, rfl, by decide +kernel, by decide +kernel⟩
theorem ok_answ {f : Addr} {fd : FuncData} (F : Fn1 K mg "answer" sAnsw ["number", "told", "signed"] f fd) (ml : mg "len" = none) : FnOk P w K mg base CX0 1 f fd ["number", "told", "signed"] spAnsw := by
  refine F.F.ok scAnsw (fun vs H Q E h => ?_) (fun cdv A0 outer s H vs Q E hr h => ?_)
  · obtain ⟨n, tp, sp, ts, ss, rfl, _⟩ := h
    rfl
  obtain ⟨n, tp, sp, ts, ss, rfl, h1, h2, l1, l2, q⟩ := h
  refine ⟨_, pss_one (ps_ret (pe_op op_cat (pe_op op_cat (pe_op op_cat (pe_lst (pa_cons (pv 0) (pa_cons (pe_callB call_len_seq rfl ml PySem.boot_len (pa_cons (pv 1) pa_nil)) pa_nil))) (pv 1)) (pe_lst (pa_cons (pe_callB call_len_seq rfl ml PySem.boot_len (pa_cons (pv 2) pa_nil)) pa_nil))) (pv 2))), ?_⟩
  exact answ_pure h1 h2 l1 l2 q
theorem ok_answH {f : Addr} {fd : FuncData} (F : Fn1 K mg "answer" sAnsw ["number", "told", "signed"] f fd) (ml : mg "len" = none) : L2H.FnH P w K mg base CX0 1 f fd ["number", "told", "signed"] spAnsw := by
  refine okH F.F scAnsw (fun vs H Q E h => ?_) (fun cdv A0 outer s H vs Q E p hot hr h => ?_)
  · obtain ⟨n, tp, sp, ts, ss, rfl, _⟩ := h
    rfl
  obtain ⟨n, tp, sp, ts, ss, rfl, h1, h2, l1, l2, q⟩ := h
  refine ⟨_, pss_one (ps_ret (pe_op op_cat (pe_op op_cat (pe_op op_cat (pe_lst (pa_cons (pv 0) (pa_cons (pe_callB call_len_seq rfl ml PySem.boot_len (pa_cons (pv 1) pa_nil)) pa_nil))) (pv 1)) (pe_lst (pa_cons (pe_callB call_len_seq rfl ml PySem.boot_len (pa_cons (pv 2) pa_nil)) pa_nil))) (pv 2))), ?_⟩
  exact answ_pure h1 h2 l1 l2 q
end
end SDP
set_option Elab.async false
set_option linter.all false
set_option maxRecDepth 100000
set_option maxHeartbeats 4000000
namespace SDP
open PySem PySem.Spec PyProof.Rows L2 SDX SD TL
open SeamNum (Bytes)
open SeamText (Toks Got isWord signs ownName statement readDraft Draft)
def DraftL (H : Hp) (p : Addr) (ds : Draft) : Prop := ∃ vs : List V, H p = some (.lst vs) ∧ Paired (fun v s => StR (fun _ => True) H v s) vs ds
def spDraft (K : PySem.W.Frag) (D : RdAd) : Sp := fun vs H Q E => ∃ (a : Addr) (b : Bytes), vs = [.ref a] ∧ BytesL K H a b ∧ b.length ≤ 4200 ∧
  (∀ ds H' p, readDraft b = .ok ds → Same H H' → H p = none → DraftL H' p ds → ds.length ≤ 128 → Q (.ref p) H') ∧ (∀ e, readDraft b = .error e → Rs D.cNo E (-2) [(e.1 : Int), (e.2 : Int)])
theorem dec_128 (n : Nat) : decide (V.int (n : Int) = V.int 128) = decide (n = 128) := by
  by_cases e : n = 128
  · subst e
    rfl
  · rw [decide_eq_false e]
    exact decide_eq_false fun z => e (by injection z with z; omega)
section
variable {P : Program} {w : World} {K : PySem.W.Frag} {mg : Str → Option Value} {base : Heap} {D : RdAd} {A : FAd} {B : SAd} {fO fT fB fR fP fL fD fN fK : Addr} {dO dT dB dR dP dL dD dN dK : FuncData}
theorem scDraft : FnScope ["t", "reader", "statements"] ["t"] (defScope sDraft) := ⟨rfl, rfl, rfl, by decide +kernel, rfl, by decide +kernel, by decide +kernel⟩
theorem ok_draft (T : StT K w mg D A B) (ml : mg "len" = none) (O : Fn1 K mg "tokens_of" sToksOf ["t"] fO dO) (TF : ToksF K mg fT fB fR fP fL fD fN fK dT dB dR dP dL dD dN dK) : FnOk P w K mg base (L2N.CX P w) 32 B.fD B.dD ["t"] (spDraft K D) := by
  refine okN T.Dr.F scDraft (fun vs H Q E h => ?_) (fun cdv A0 outer s H vs Q E hr h => ?_)
  · obtain ⟨a, b, rfl, _⟩ := h
    rfl
  obtain ⟨pa, b, rfl, hB, hb, good, rs⟩ := h
  have hr1 : Room 1 _ := hr.mono (by omega)
  have hr2 : Room 2 _ := hr.mono (by omega)
  have hr4 : Room 4 _ := hr.mono (by omega)
  have hr5 : Room 5 _ := hr.mono (by omega)
  have TR := T.T.T
  refine ⟨_, pss_cons (ps_set (i := 1) scDraft.nd rfl (Or.inl rfl) (pe_make TR.made (ok_rdI TR) hr2 rfl TR.g TR.I.b .nil pass0 (pa_cons (pe_call (ok_toksOf O.F TF) hr4 rfl O.m O.F.kp O.b .nil pass0 (pa_cons (pv 0) pa_nil)) pa_nil)))
    (pss_cons (ps_set (i := 2) scDraft.nd rfl (Or.inl rfl) (pe_lst pa_nil))
    (pss_cons (ps_while (passes_of rfl) (pt_cmpR op_ne (pe_meth0 (pv 1) TR.cl TR.Hh.m (ok_here TR) hr1 TR.Hh.b .nil pass0) (pe_gs rfl TR.G.END) (by rfl))
      (pss_cons (ps_if (pt_cmpR op_eq (pe_callB call_len_seq rfl ml PySem.boot_len (pa_cons (pv 2) pa_nil)) (pe_gi rfl T.MS) (by rfl)) (pss_one (ps_expr (pe_meth0 (pv 1) TR.cl TR.R.m (ok_refuse TR) hr4 TR.R.b .nil passN))) pss_nil)
      (pss_cons (ps_expr (pe_bm PySem.F.plainAttrs_list PySem.F.slot_list_append PySem.F.type_list_append mt_append (pv 2) (pa_cons (pe_call (ok_stat T ml) hr rfl T.U.m T.U.F.kp T.U.b .nil passN (pa_cons (pv 1) pa_nil)) pa_nil)))
      (pss_one (ps_expr (pe_meth (pv 1) TR.cl TR.T.m (ok_take TR) hr5 TR.T.b .nil passN (pa_cons pe_str pa_nil)))))))
    (pss_one (ps_ret (pv 2))))), ?_⟩
  have e59 : Str.ofString ";" = tx [59] := by decide +kernel
  refine ⟨_, rfl, pa, b, rfl, hB, hb, fun H1 tl pt sm hn hT hlen hRest => fun r dx hr hdx ne => ?_⟩
  have htl : H1 tl ≠ none := fun z => by
    obtain ⟨as, e, _⟩ := hT
    rw [z] at e
    cases e
  have nrt : r ≠ tl := fun z => htl (by rw [← z]; exact hr)
  have ndt : dx ≠ tl := fun z => htl (by rw [← z]; exact hdx)
  refine ⟨r, tl, dx, rfl, upd_same, rfl, ?_⟩
  have hrH : H r = none := sm.free hr
  have s1 : Same H1 (upd (upd (upd (upd H1 dx (.own r)) r (.ins D.C dx [])) r (.ins D.C dx [("tokens", .ref tl)])) r (.ins D.C dx [("tokens", .ref tl), ("at", .int 0)])) := fun x u hx => by
    rw [upd_ne (ne_of_none hx hr), upd_ne (ne_of_none hx hr), upd_ne (ne_of_none hx hr), upd_ne (ne_of_none hx hdx)]
    exact hx
  have i1 : (upd (upd (upd (upd H1 dx (.own r)) r (.ins D.C dx [])) r (.ins D.C dx [("tokens", .ref tl)])) r (.ins D.C dx [("tokens", .ref tl), ("at", .int 0)])) r = some (.ins D.C dx [("tokens", .ref tl), ("at", .int ((0 : Nat) : Int))]) := upd_same
  generalize (upd (upd (upd (upd H1 dx (.own r)) r (.ins D.C dx [])) r (.ins D.C dx [("tokens", .ref tl)])) r (.ins D.C dx [("tokens", .ref tl), ("at", .int 0)])) = H2 at s1 i1 ⊢
  have R2 : RdAt D.C H2 r tl pt 0 := ⟨⟨dx, i1⟩, hT.kp (Kp.same (M := []) s1) (by simp)⟩
  refine ⟨by show 0 ≤ sizeLine; decide, fun sl hsl => ?_⟩
  have nsr : sl ≠ r := fun z => by rw [z, i1] at hsl; cases hsl
  have s2 : Same H H2 := sm.trans s1
  have hslH : H sl = none := s2.free hsl
  have nst : sl ≠ tl := fun z => by
    obtain ⟨as, e, _⟩ := R2.toks
    rw [z, e] at hsl
    cases hsl
  have ks : Kp ([] : List Addr) H2 (upd H2 sl (.lst [])) := Kp.new hsl
  have nd0 : ∀ b, readDraft b = goes (lx 0 b).2 b.length [] 128 (lx 0 b).1 := fun b => by
    rw [readDraft_is]
    unfold goes
    congr 1
    cases SeamText.statements 128 (lx 0 b).1 <;> rfl
  refine ⟨fun m σ H' => ∃ (vs : List V) (ss : Draft) (t1 : Toks) (i1 : Nat), σ = [some (.ref pa), some (.ref r), some (.ref sl)] ∧ Same H H' ∧ H' sl = some (.lst vs) ∧ Paired (fun v s => StR (fun a => a ≠ sl ∧ a ≠ r) H' v s) vs ss ∧ RdAt D.C H' r tl pt i1 ∧ Rest (lx 0 b).2 b.length (pt.drop i1) t1 ∧
      ss.length ≤ 128 ∧ readDraft b = goes (lx 0 b).2 b.length ss (128 - ss.length) t1 ∧ m = pt.length - i1, ⟨_, [], [], (lx 0 b).1, 0, rfl, s2.trans (same_new hsl _), upd_same, .nil, R2.kp ks (by simp) (by simp), by rw [List.drop_zero]; exact hRest, Nat.zero_le _, nd0 b, rfl⟩, ?_⟩
  rintro m σ H3 ⟨vs, ss, t1, i3, rfl, s3, hl3, hp3, R3, hR3, h128, ex, rfl⟩
  obtain ⟨a, ea, hRa, hi⟩ := rest_get hR3
  obtain ⟨⟨dx3, er3⟩, _⟩ := id R3
  have elen : vs.length = ss.length := Paired.length hp3
  refine ⟨_, rfl, r, dx3, _, rfl, er3, rfl, r, tl, pt, i3, a, rfl, R3, ea, rfl, ?_⟩
  rw [dec_str]
  by_cases hE : a.1 = sEnd
  · rw [decide_eq_true hE]
    refine ⟨_, rfl, iteF ?_⟩
    refine ⟨_, rfl, ?_⟩
    exact good ss H3 sl (by rw [ex]; exact goes_end hRa hE) s3 hslH ⟨vs, hl3, paired_map (fun v s h => h.imp fun _ _ => trivial) hp3⟩ h128
  rw [decide_eq_false hE]
  refine ⟨_, rfl, iteT ⟨_, fun _ _ h => h, ?_⟩⟩
  refine ⟨_, rfl, sl, _, rfl, .inl (SqL.of hl3), rfl, ?_⟩
  rw [elen, dec_128]
  by_cases h8 : ss.length = 128
  · rw [decide_eq_true h8]
    refine ⟨_, rfl, iteT ⟨_, rfl, r, dx3, _, rfl, er3, rfl, r, tl, pt, i3, a, rfl, R3, ea, ?_⟩⟩
    refine rs (errT a) ?_
    rw [ex, h8]
    exact goes_full hRa hE
  rw [decide_eq_false h8]
  refine ⟨_, rfl, iteF ?_⟩
  have e8 : 128 - ss.length = (127 - ss.length) + 1 := by omega
  have ex2 := ex
  rw [e8, goes_go hRa hE] at ex2
  refine ⟨_, rfl, .inl ⟨rfl, _, SqL.of hl3⟩, _, rfl, r, tl, pt, (lx 0 b).2, b.length, i3, t1, rfl, ⟨R3, hR3, by omega, fun s t4 i4 H4 v es k4 R4 hR4 st4 hi4 => ?_, fun o e => ?_⟩⟩
  · have nlr : sl ∉ [r] := by simp [nsr]
    have hl4 : H4 sl = some (.lst vs) := k4 _ _ hl3 (.inl nlr)
    refine ⟨sl, _, _, rfl, rfl, hl4, by rw [elen, sizeLine_eq]; omega, ?_⟩
    have kp : Kp [sl] H4 (upd H4 sl (.lst (vs ++ [v]))) := Kp.put hl4 rfl (by simp)
    have s5 : Same H (upd H4 sl (.lst (vs ++ [v]))) := same_kp (same_kp s3 k4 (by simp [hrH])) kp (by simp [hslH])
    have hp5 : Paired (fun x y => StR (fun a => a ≠ sl ∧ a ≠ r) (upd H4 sl (.lst (vs ++ [v]))) x y) (vs ++ [v]) (ss ++ [s]) := by
      refine paired_snoc (paired_map (fun x y h => (h.kp k4 fun a ha => by simp [ha.2]).kp kp fun a ha => by simp [ha.1]) hp3) ?_
      refine (st4.imp (ok' := fun a => a ≠ sl ∧ a ≠ r) fun a ha => ⟨fun z => ?_, fun z => ?_⟩).kp kp fun a ha => by simp [ha.1]
      · rw [z, hl3] at ha
        cases ha
      · rw [z, er3] at ha
        cases ha
    have R5 : RdAt D.C (upd H4 sl (.lst (vs ++ [v]))) r tl pt i4 := R4.kp kp (by simp [nsr.symm]) (by simp [nst.symm])
    have hl5 : (upd H4 sl (.lst (vs ++ [v]))) sl = some (.lst (vs ++ [v])) := upd_same
    generalize upd H4 sl (.lst (vs ++ [v])) = H5 at s5 hp5 R5 hl5 ⊢
    rw [goes_next es] at ex2
    obtain ⟨⟨dx5, er5⟩, _⟩ := id R5
    refine ⟨_, rfl, r, dx5, _, rfl, er5, rfl, ?_⟩
    refine pa1 ?_
    refine sp_take R5 hR4 (fun a h => rest_sign (c := 59) (by decide +kernel) h) (by rw [e59]; rfl) (fun a6 t6 H6 ea6 hRa6 ex6 hR6 k6 R6 => ?_) (fun o e => ?_)
    · obtain ⟨_, _, _, hi6⟩ := rest_get hR6
      refine ⟨_, ?_, vs ++ [v], ss ++ [s], t6, i4 + 1, rfl, same_kp s5 k6 (by simp [hrH]), k6 _ _ hl5 (.inl nlr), paired_map (fun x y h => h.kp k6 fun a ha => by simp [ha.2]) hp5, R6, hR6, ?_, ?_, rfl⟩
      · omega
      · rw [List.length_append, List.length_singleton]
        omega
      · rw [ex2, ex6]
        have e9 : 128 - (ss ++ [s]).length = 127 - ss.length := by
          rw [List.length_append, List.length_singleton]
          omega
        rw [e9]
        rfl
    · refine rs (errOf (lx 0 b).2 b.length o) ?_
      rw [ex2, e]
      rfl
  · refine rs (errOf (lx 0 b).2 b.length o) ?_
    rw [ex2, e]
    rfl
end
end SDP
set_option Elab.async false
/-! # What is read is fine: names begin with a letter, numbers are short, a function has as many parts as it takes; how long it is -/
namespace SD
open SeamNum SeamPoly SeamPattern SeamText
def nmFine (b : Bytes) : Prop := isLetter (b.headD 0) = true ∧ b.length ≤ 40
def tokFine : Tok → Prop
  | .name b => nmFine b
  | .num n k => (pointText n k).length ≤ 40
  | .sign _ => True
theorem noNull_le (a : Bytes) : (noNull a).length ≤ a.length := by
  unfold noNull
  exact (List.dropWhile_suffix _).length_le
theorem noTail_le (a : Bytes) : (noTail a).length ≤ a.length := by
  unfold noTail
  have q := noNull_le a.reverse
  rw [List.length_reverse] at q ⊢
  exact q
theorem plain_le {x a d : Bytes} (N : NumText x a d) : (plain a d).length ≤ x.length + 2 := by
  have h1 := noNull_le a
  have h2 := noTail_le d
  have h3 : (orNull (noNull a)).length ≤ a.length + 1 := by
    unfold orNull
    split
    · simp
    · omega
  have h4 : a.length + d.length ≤ x.length := by
    rw [N.is]
    split
    · rename_i h
      rw [h]
      simp
    · rw [List.length_append, List.length_cons]
      omega
  unfold plain
  split
  · omega
  · rw [List.length_append, List.length_cons]
    omega
theorem letters1 : ∀ b ∈ WORDSB, isLetter (b.headD 0) = true := by decide +kernel
theorem word_head {b : Bytes} (h : isWord b = true) : isLetter (b.headD 0) = true := by
  have m : b ∈ WORDSB := by
    unfold isWord at h
    simp only [Bool.or_eq_true] at h
    unfold WORDSB
    rcases h with h | h | h
    · rw [List.contains_iff_mem] at h
      simp only [List.mem_cons, List.not_mem_nil, or_false] at h
      rcases h with h | h | h | h | h <;> rw [h] <;> decide +kernel
    · rw [ofSums_some, List.contains_iff_mem] at h
      simp only [List.mem_cons, List.not_mem_nil, or_false] at h
      rcases h with h | h | h | h <;> rw [h] <;> decide +kernel
    · obtain ⟨g, hg⟩ := Option.isSome_iff_exists.mp h
      obtain ⟨_, h5, h11, e⟩ := places_word hg
      rw [← e]
      have all : ∀ g : Fin 11, 5 ≤ g.val → wordOf g.val ∈ [ascii "let", ascii "point", ascii "piece", ascii "seam", ascii "grain", ascii "x", ascii "y", ascii "min", ascii "max", ascii "between", ascii "meet", ascii "foot", ascii "mirror", ascii "turn", ascii "shift"] := by decide +kernel
      exact all ⟨g, h11⟩ h5
  exact letters1 b m
theorem tok_fine {c : UInt8} {r : Bytes} {tok : Tok} (h : TokR (kindL (c :: r)) ((c :: r).take (tokLen (c :: r))) tok) (h1 : 1 ≤ tokLen (c :: r)) : tokFine tok := by
  cases tok with
  | sign s => trivial
  | num n k =>
    obtain ⟨_, hl, a, d, N, e⟩ := h
    show (pointText n k).length ≤ 40
    rw [e]
    have q := plain_le N
    omega
  | name b =>
    obtain ⟨hx, hk, hl⟩ := h
    refine ⟨?_, by rw [← hx]; omega⟩
    by_cases hw : isWord b = true
    · exact word_head hw
    · rw [if_neg hw] at hk
      by_cases hL : isLetter c = true
      · rw [← hx]
        obtain ⟨m, em⟩ : ∃ m, tokLen (c :: r) = m + 1 := ⟨tokLen (c :: r) - 1, by omega⟩
        rw [em, List.take_succ_cons]
        exact hL
      · unfold kindL at hk
        rw [List.headD_cons, if_neg hL] at hk
        by_cases hD : isDigit c = true
        · rw [if_pos hD] at hk
          unfold kindNum at hk
          split at hk
          · exact absurd hk (by decide +kernel)
          · exact absurd hk (by decide +kernel)
        · rw [if_neg hD] at hk
          unfold kindSign at hk
          split at hk
          · have q := congrArg List.length hk
            rw [List.length_singleton] at q
            exact absurd q (by decide +kernel)
          · exact absurd hk (by decide +kernel)
theorem lx_fine : ∀ (n : Nat) (l : Bytes) (p : Nat), l.length ≤ n → (∀ q ∈ (lx p l).1, tokFine q.2) ∧ (lx p l).1.length ≤ l.length
  | _, [], p, _ => by
    rw [lx_nil]
    exact ⟨fun q h => absurd h (by simp), Nat.le_refl _⟩
  | 0, c :: r, p, h => by simp at h
  | n + 1, c :: r, p, h => by
    rw [List.length_cons] at h
    by_cases h1 : c = 32 ∨ c = 10
    · rw [lx_blank h1]
      obtain ⟨i1, i2⟩ := lx_fine n r (p + 1) (by omega)
      exact ⟨i1, by rw [List.length_cons]; omega⟩
    · by_cases h2 : c = 35
      · subst h2
        rw [lx_rem]
        have q := (List.dropWhile_suffix (l := r) (fun (d : UInt8) => d != 10)).length_le
        obtain ⟨i1, i2⟩ := lx_fine n (r.dropWhile fun (d : UInt8) => d != 10) (p + 1 + (r.length - (r.dropWhile fun (d : UInt8) => d != 10).length)) (by omega)
        exact ⟨i1, by rw [List.length_cons]; omega⟩
      · obtain ⟨t1, t2, hk⟩ := tok_at (p := p) (r := r) h1 h2
        rcases hk with ⟨_, e⟩ | ⟨_, tok, T, e⟩
        · rw [e]
          exact ⟨fun q h => absurd h (by simp), Nat.zero_le _⟩
        · rw [e]
          obtain ⟨i1, i2⟩ := lx_fine n ((c :: r).drop (tokLen (c :: r))) (p + tokLen (c :: r)) (by rw [List.length_drop, List.length_cons]; omega)
          rw [List.length_drop] at i2
          refine ⟨fun q hq => ?_, by rw [List.length_cons]; omega⟩
          rcases List.mem_cons.mp hq with z | z
          · rw [z]
            exact tok_fine T t1
          · exact i1 q z
def eFine : E → Prop
  | .num n k => (pointText n k).length ≤ 40
  | .name b => nmFine b
  | .neg a => eFine a
  | .op c a b => (c = 43 ∨ c = 45 ∨ c = 42 ∨ c = 47) ∧ eFine a ∧ eFine b
  | .call1 f a => (f < 11 ∧ (takesOf f).length = 1) ∧ eFine a
  | .call2 f a b => (f < 11 ∧ (takesOf f).length = 2) ∧ eFine a ∧ eFine b
  | .call3 f a b c => (f < 11 ∧ (takesOf f).length = 3) ∧ eFine a ∧ eFine b ∧ eFine c
  | .call4 f a b c d => (f < 11 ∧ (takesOf f).length = 4) ∧ eFine a ∧ eFine b ∧ eFine c ∧ eFine d
theorem called_fine {f : Nat} {l : List E} (hf : f < 11) (hl : l.length = (takesOf f).length) (h1 : l ≠ []) (h4 : l.length ≤ 4) (h : ∀ x ∈ l, eFine x) : eFine (called f l) := by
  match l, hl, h1, h4, h with
  | [a], hl, _, _, h => exact ⟨⟨hf, hl.symm⟩, h a (by simp)⟩
  | [a, b], hl, _, _, h => exact ⟨⟨hf, hl.symm⟩, h a (by simp), h b (by simp)⟩
  | [a, b, c], hl, _, _, h => exact ⟨⟨hf, hl.symm⟩, h a (by simp), h b (by simp), h c (by simp)⟩
  | [a, b, c, d], hl, _, _, h => exact ⟨⟨hf, hl.symm⟩, h a (by simp), h b (by simp), h c (by simp), h d (by simp)⟩
  | _ :: _ :: _ :: _ :: _ :: _, _, _, h, _ => simp only [List.length_cons] at h; omega
def gFine : Goal → Prop
  | .sumMore a => eFine a
  | .productMore a => eFine a
  | .parts f l more => f < 11 ∧ l.length + more.length = (takesOf f).length ∧ (∀ x ∈ l, eFine x)
  | _ => True
def gSteps : Goal → Nat
  | .sumMore a => (stepsOf a).length
  | .productMore a => (stepsOf a).length
  | .parts _ l _ => (l.flatMap stepsOf).length
  | _ => 0
theorem takes_len : ∀ f : Fin 11, 1 ≤ (takesOf f.val).length ∧ (takesOf f.val).length ≤ 4 := by decide +kernel
/-- all tokens of t are fine -/
def tFine (t : Toks) : Prop := ∀ q ∈ t, tokFine q.2
theorem sign_fine {c : UInt8} {t : Toks} {x : Unit × Toks} (h : SeamText.sign c t = .ok x) (ht : tFine t) : tFine x.2 ∧ x.2.length + 1 = t.length := by
  obtain ⟨p, e⟩ := sign_is h
  rw [e] at ht ⊢
  exact ⟨fun q hq => ht q (List.mem_cons_of_mem _ hq), rfl⟩
theorem own_fine {t : Toks} {x : Bytes × Toks} (h : ownName t = .ok x) (ht : tFine t) : nmFine x.1 ∧ tFine x.2 ∧ x.2.length + 1 = t.length := by
  unfold ownName at h
  split at h
  · rename_i p b r
    split at h
    · cases h
    · cases h
      exact ⟨ht _ List.mem_cons_self, fun q hq => ht q (List.mem_cons_of_mem _ hq), rfl⟩
  · cases h
theorem word_fine {w : Bytes} {t : Toks} {x : Unit × Toks} (h : SeamText.word w t = .ok x) (ht : tFine t) : tFine x.2 ∧ x.2.length + 1 = t.length := by
  unfold SeamText.word at h
  split at h
  · rename_i p b r
    split at h
    · cases h
      exact ⟨fun q hq => ht q (List.mem_cons_of_mem _ hq), rfl⟩
    · cases h
  · cases h
theorem read_fine : ∀ (f d : Nat) (g : Goal) (t : Toks) (e : E) (r : Toks), SeamText.read f d g t = .ok (e, r) → tFine t → gFine g → eFine e ∧ tFine r ∧ (stepsOf e).length + r.length ≤ gSteps g + t.length
  | 0, d, g, t, e, r, h, _, _ => by
    unfold SeamText.read at h
    cases h
  | f + 1, d, .sum, t, e, r, h, ht, _ => by
    unfold SeamText.read at h
    obtain ⟨a, h1, h2⟩ := next_is h
    obtain ⟨f1, f2, f3⟩ := read_fine f d _ _ a.1 a.2 h1 ht trivial
    obtain ⟨k1, k2, k3⟩ := read_fine f d _ _ _ _ h2 f2 f1
    simp only [gSteps] at f3 k3 ⊢
    exact ⟨k1, k2, by omega⟩
  | f + 1, d, .product, t, e, r, h, ht, _ => by
    unfold SeamText.read at h
    obtain ⟨a, h1, h2⟩ := next_is h
    obtain ⟨f1, f2, f3⟩ := read_fine f d _ _ a.1 a.2 h1 ht trivial
    obtain ⟨k1, k2, k3⟩ := read_fine f d _ _ _ _ h2 f2 f1
    simp only [gSteps] at f3 k3 ⊢
    exact ⟨k1, k2, by omega⟩
  | f + 1, d, .sumMore a, t, e, r, h, ht, hg => by
    unfold SeamText.read at h
    split at h
    · rename_i p c r1
      have ht1 : tFine r1 := fun q hq => ht q (List.mem_cons_of_mem _ hq)
      split at h
      · rename_i hc
        obtain ⟨b, h1, h2⟩ := next_is h
        obtain ⟨f1, f2, f3⟩ := read_fine f d _ _ b.1 b.2 h1 ht1 trivial
        have hop : eFine (.op c a b.1) := ⟨by rcases hc with z | z <;> rw [z] <;> simp, hg, f1⟩
        obtain ⟨k1, k2, k3⟩ := read_fine f d _ _ _ _ h2 f2 hop
        simp only [gSteps, stepsOf, List.length_append, List.length_cons, List.length_nil] at f3 k3 ⊢
        exact ⟨k1, k2, by omega⟩
      · cases h
        exact ⟨hg, ht, by simp only [gSteps]; omega⟩
    · cases h
      exact ⟨hg, ht, by simp only [gSteps]; omega⟩
  | f + 1, d, .productMore a, t, e, r, h, ht, hg => by
    unfold SeamText.read at h
    split at h
    · rename_i p c r1
      have ht1 : tFine r1 := fun q hq => ht q (List.mem_cons_of_mem _ hq)
      split at h
      · rename_i hc
        obtain ⟨b, h1, h2⟩ := next_is h
        obtain ⟨f1, f2, f3⟩ := read_fine f d _ _ b.1 b.2 h1 ht1 trivial
        have hop : eFine (.op c a b.1) := ⟨by rcases hc with z | z <;> rw [z] <;> simp, hg, f1⟩
        obtain ⟨k1, k2, k3⟩ := read_fine f d _ _ _ _ h2 f2 hop
        simp only [gSteps, stepsOf, List.length_append, List.length_cons, List.length_nil] at f3 k3 ⊢
        exact ⟨k1, k2, by omega⟩
      · cases h
        exact ⟨hg, ht, by simp only [gSteps]; omega⟩
    · cases h
      exact ⟨hg, ht, by simp only [gSteps]; omega⟩
  | f + 1, d, .factor, t, e, r, h, ht, _ => by
    unfold SeamText.read at h
    split at h
    · rename_i p n k r1
      cases h
      exact ⟨ht _ List.mem_cons_self, fun q hq => ht q (List.mem_cons_of_mem _ hq), by simp [gSteps, stepsOf]; omega⟩
    · rename_i p b r1
      have ht1 : tFine r1 := fun q hq => ht q (List.mem_cons_of_mem _ hq)
      split at h
      · rename_i g hg
        split at h
        · cases h
        · obtain ⟨x, h1, h2⟩ := next_is h
          obtain ⟨s1, s2⟩ := sign_fine h1 ht1
          have g11 : g < 11 := by have := (sums_word hg).2.1; omega
          obtain ⟨k1, k2, k3⟩ := read_fine f _ _ _ _ _ h2 s1 ⟨g11, by simp, by simp⟩
          simp only [gSteps, List.flatMap_nil, List.length_nil, List.length_cons] at k3 ⊢
          exact ⟨k1, k2, by omega⟩
      · split at h
        · cases h
        · cases h
          exact ⟨ht _ List.mem_cons_self, ht1, by simp [gSteps, stepsOf]; omega⟩
    · rename_i p c r1
      have ht1 : tFine r1 := fun q hq => ht q (List.mem_cons_of_mem _ hq)
      split at h
      · split at h
        · cases h
        · obtain ⟨x, h1, h2⟩ := next_is h
          obtain ⟨k1, k2, k3⟩ := read_fine f _ _ _ x.1 x.2 h1 ht1 trivial
          cases h2
          simp only [gSteps, stepsOf, List.length_append, List.length_cons, List.length_nil] at k3 ⊢
          exact ⟨k1, k2, by omega⟩
      · split at h
        · split at h
          · cases h
          · obtain ⟨x, h1, h2⟩ := next_is h
            obtain ⟨k1, k2, k3⟩ := read_fine f _ _ _ x.1 x.2 h1 ht1 trivial
            obtain ⟨y, h3, h4⟩ := next_is h2
            obtain ⟨s1, s2⟩ := sign_fine h3 k2
            cases h4
            simp only [gSteps, List.length_cons] at k3 ⊢
            exact ⟨k1, s1, by omega⟩
        · cases h
    · cases h
  | f + 1, d, .place, t, e, r, h, ht, _ => by
    unfold SeamText.read at h
    split at h
    · rename_i p b r1
      have ht1 : tFine r1 := fun q hq => ht q (List.mem_cons_of_mem _ hq)
      split at h
      · rename_i g hg
        split at h
        · cases h
        · obtain ⟨x, h1, h2⟩ := next_is h
          obtain ⟨s1, s2⟩ := sign_fine h1 ht1
          obtain ⟨k1, k2, k3⟩ := read_fine f _ _ _ _ _ h2 s1 ⟨(places_word hg).2.2.1, by simp, by simp⟩
          simp only [gSteps, List.flatMap_nil, List.length_nil, List.length_cons] at k3 ⊢
          exact ⟨k1, k2, by omega⟩
      · split at h
        · cases h
        · cases h
          exact ⟨ht _ List.mem_cons_self, ht1, by simp [gSteps, stepsOf]; omega⟩
    · rename_i p c r1
      have ht1 : tFine r1 := fun q hq => ht q (List.mem_cons_of_mem _ hq)
      split at h
      · obtain ⟨k1, k2, k3⟩ := read_fine f _ _ _ _ _ h ht1 ⟨by decide, by decide +kernel, by simp⟩
        simp only [gSteps, List.flatMap_nil, List.length_nil, List.length_cons] at k3 ⊢
        exact ⟨k1, k2, by omega⟩
      · cases h
    · cases h
  | f + 1, d, .parts g l more, t, e, r, h, ht, hg => by
    unfold SeamText.read at h
    obtain ⟨g11, glen, gall⟩ := hg
    obtain ⟨w1, w2⟩ := takes_len ⟨g, g11⟩
    have w1 : 1 ≤ (takesOf g).length := w1
    have w2 : (takesOf g).length ≤ 4 := w2
    cases more with
    | nil =>
      obtain ⟨x, h1, h2⟩ := next_is h
      obtain ⟨s1, s2⟩ := sign_fine h1 ht
      cases h2
      rw [List.length_nil, Nat.add_zero] at glen
      have hne : l ≠ [] := fun z => by rw [z] at glen; simp at glen; omega
      refine ⟨called_fine g11 glen hne (by omega) gall, s1, ?_⟩
      rw [steps_called hne (by omega)]
      simp only [gSteps, List.length_append, List.length_cons, List.length_nil]
      omega
    | cons p m =>
      obtain ⟨x, h1, h2⟩ := next_is h
      rw [List.length_cons] at glen
      have go : ∀ (G : Goal), G = .place ∨ G = .sum → SeamText.read f d G t = .ok (x.1, x.2) → eFine x.1 ∧ tFine x.2 ∧ (stepsOf x.1).length + x.2.length ≤ t.length := by
        intro G hG hx
        obtain ⟨k1, k2, k3⟩ := read_fine f d G t x.1 x.2 hx ht (by rcases hG with z | z <;> rw [z] <;> trivial)
        refine ⟨k1, k2, ?_⟩
        rcases hG with z | z <;> (rw [z] at k3; simpa [gSteps] using k3)
      have hx : eFine x.1 ∧ tFine x.2 ∧ (stepsOf x.1).length + x.2.length ≤ t.length := by
        by_cases hp : p = true
        · rw [if_pos hp] at h1
          exact go _ (.inl rfl) h1
        · rw [if_neg hp] at h1
          exact go _ (.inr rfl) h1
      obtain ⟨k1, k2, k3⟩ := hx
      have gall2 : ∀ y ∈ l ++ [x.1], eFine y := fun y hy => by
        rcases List.mem_append.mp hy with z | z
        · exact gall y z
        · rw [List.mem_singleton.mp z]
          exact k1
      split at h2
      · rename_i hm
        subst hm
        obtain ⟨j1, j2, j3⟩ := read_fine f _ _ _ _ _ h2 k2 ⟨g11, by simp only [List.length_append, List.length_cons, List.length_nil] at glen ⊢; omega, gall2⟩
        simp only [gSteps, List.flatMap_append, List.flatMap_cons, List.flatMap_nil, List.length_append, List.append_nil] at j3 ⊢
        exact ⟨j1, j2, by omega⟩
      · obtain ⟨y, h3, h4⟩ := next_is h2
        obtain ⟨s1, s2⟩ := sign_fine h3 k2
        obtain ⟨j1, j2, j3⟩ := read_fine f _ _ _ _ _ h4 s1 ⟨g11, by simp only [List.length_append, List.length_cons, List.length_nil] at glen ⊢; omega, gall2⟩
        simp only [gSteps, List.flatMap_append, List.flatMap_cons, List.flatMap_nil, List.length_append, List.append_nil] at j3 ⊢
        exact ⟨j1, j2, by omega⟩
end SD
set_option Elab.async false
/-! # Statements that are read are fine; how a sum's printed parts are put together; the blanks between tokens -/
namespace SD
open SeamNum SeamPoly SeamPattern SeamText
def stFine : St → Prop
  | .let_ n e => nmFine n ∧ eFine e
  | .point n e => nmFine n ∧ eFine e
  | .piece n cs g h => nmFine n ∧ (∀ c ∈ cs, nmFine c) ∧ cs ≠ [] ∧ nmFine g ∧ nmFine h
  | .seam a p q b r s => nmFine a ∧ nmFine p ∧ nmFine q ∧ nmFine b ∧ nmFine r ∧ nmFine s
def stW : St → Nat
  | .let_ _ e => (stepsOf e).length + 1
  | .point _ e => (stepsOf e).length + 1
  | .piece _ cs _ _ => cs.length + 1
  | .seam _ _ _ _ _ _ => 1
theorem corners_fine : ∀ (f : Nat) (l : List Bytes) (t : Toks) (x : List Bytes × Toks), corners f l t = .ok x → tFine t → (∀ b ∈ l, nmFine b) → l ≠ [] → (∀ b ∈ x.1, nmFine b) ∧ x.1 ≠ [] ∧ tFine x.2 ∧ x.1.length + x.2.length ≤ l.length + t.length
  | 0, l, t, x, h, _, _, _ => by
    unfold corners at h
    cases h
  | f + 1, l, t, x, h, ht, hl, hne => by
    unfold corners at h
    split at h
    · rename_i p c r
      have ht1 : tFine r := fun q hq => ht q (List.mem_cons_of_mem _ hq)
      split at h
      · cases h
        exact ⟨hl, hne, ht1, by simp only [List.length_cons]; omega⟩
      · split at h
        · obtain ⟨b, h1, h2⟩ := next_is h
          obtain ⟨f1, f2, f3⟩ := own_fine h1 ht1
          obtain ⟨k1, k2, k3, k4⟩ := corners_fine f (l ++ [b.1]) b.2 x h2 f2 (fun y hy => by
            rcases List.mem_append.mp hy with z | z
            · exact hl y z
            · rw [List.mem_singleton.mp z]
              exact f1) (by simp)
          refine ⟨k1, k2, k3, ?_⟩
          simp only [List.length_append, List.length_cons, List.length_nil] at k4 ⊢
          omega
        · cases h
    · cases h
theorem statement_fine {t : Toks} {x : St × Toks} (h : statement t = .ok x) (ht : tFine t) : stFine x.1 ∧ tFine x.2 ∧ stW x.1 + x.2.length ≤ t.length := by
  unfold statement at h
  split at h
  · rename_i p w r
    have ht1 : tFine r := fun q hq => ht q (List.mem_cons_of_mem _ hq)
    rw [List.length_cons]
    split at h
    · obtain ⟨n, h1, h2⟩ := next_is h
      obtain ⟨a1, a2, a3⟩ := own_fine h1 ht1
      obtain ⟨s, h3, h4⟩ := next_is h2
      obtain ⟨b1, b2⟩ := sign_fine h3 a2
      obtain ⟨e, h5, h6⟩ := next_is h4
      obtain ⟨c1, c2, c3⟩ := read_fine _ _ _ _ e.1 e.2 h5 b1 trivial
      obtain ⟨y, h7, h8⟩ := next_is h6
      obtain ⟨d1, d2⟩ := sign_fine h7 c2
      cases h8
      simp only [gSteps] at c3
      exact ⟨⟨a1, c1⟩, d1, by simp only [stW]; omega⟩
    split at h
    · obtain ⟨n, h1, h2⟩ := next_is h
      obtain ⟨a1, a2, a3⟩ := own_fine h1 ht1
      obtain ⟨s, h3, h4⟩ := next_is h2
      obtain ⟨b1, b2⟩ := sign_fine h3 a2
      obtain ⟨e, h5, h6⟩ := next_is h4
      obtain ⟨c1, c2, c3⟩ := read_fine _ _ _ _ e.1 e.2 h5 b1 trivial
      obtain ⟨y, h7, h8⟩ := next_is h6
      obtain ⟨d1, d2⟩ := sign_fine h7 c2
      cases h8
      simp only [gSteps] at c3
      exact ⟨⟨a1, c1⟩, d1, by simp only [stW]; omega⟩
    split at h
    · obtain ⟨n, h1, h2⟩ := next_is h
      obtain ⟨a1, a2, a3⟩ := own_fine h1 ht1
      obtain ⟨s, h3, h4⟩ := next_is h2
      obtain ⟨b1, b2⟩ := sign_fine h3 a2
      obtain ⟨c, h5, h6⟩ := next_is h4
      obtain ⟨c1, c2, c3⟩ := own_fine h5 b1
      obtain ⟨l, h7, h8⟩ := next_is h6
      obtain ⟨l1, l2, l3, l4⟩ := corners_fine _ _ _ _ h7 c2 (fun y hy => by rw [List.mem_singleton.mp hy]; exact c1) (by simp)
      obtain ⟨g, h9, h10⟩ := next_is h8
      obtain ⟨g1, g2⟩ := word_fine h9 l3
      obtain ⟨u, h11, h12⟩ := next_is h10
      obtain ⟨u1, u2, u3⟩ := own_fine h11 g1
      obtain ⟨v, h13, h14⟩ := next_is h12
      obtain ⟨v1, v2, v3⟩ := own_fine h13 u2
      obtain ⟨y, h15, h16⟩ := next_is h14
      obtain ⟨d1, d2⟩ := sign_fine h15 v2
      cases h16
      simp only [List.length_cons, List.length_nil] at l4
      exact ⟨⟨a1, l1, l2, u1, v1⟩, d1, by simp only [stW]; omega⟩
    split at h
    · obtain ⟨a, h1, h2⟩ := next_is h
      obtain ⟨a1, a2, a3⟩ := own_fine h1 ht1
      obtain ⟨b, h3, h4⟩ := next_is h2
      obtain ⟨b1, b2, b3⟩ := own_fine h3 a2
      obtain ⟨c, h5, h6⟩ := next_is h4
      obtain ⟨c1, c2, c3⟩ := own_fine h5 b2
      obtain ⟨s, h7, h8⟩ := next_is h6
      obtain ⟨s1, s2⟩ := sign_fine h7 c2
      obtain ⟨u, h9, h10⟩ := next_is h8
      obtain ⟨u1, u2, u3⟩ := own_fine h9 s1
      obtain ⟨v, h11, h12⟩ := next_is h10
      obtain ⟨v1, v2, v3⟩ := own_fine h11 u2
      obtain ⟨w, h13, h14⟩ := next_is h12
      obtain ⟨w1, w2, w3⟩ := own_fine h13 v2
      obtain ⟨y, h15, h16⟩ := next_is h14
      obtain ⟨d1, d2⟩ := sign_fine h15 w2
      cases h16
      exact ⟨⟨a1, b1, c1, u1, v1, w1⟩, d1, by simp only [stW]; omega⟩
    · cases h
  · cases h
theorem statements_fine : ∀ (n : Nat) (t : Toks) (d : Draft), statements n t = .ok d → tFine t → (∀ s ∈ d, stFine s) ∧ (d.map stW).sum ≤ t.length
  | n, [], d, h, _ => by
    have e : statements n [] = .ok [] := by cases n <;> rfl
    rw [e] at h
    cases h
    exact ⟨fun s hs => absurd hs (by simp), by simp⟩
  | 0, q :: t, d, h, _ => by cases h
  | n + 1, q :: t, d, h, ht => by
    have e : statements (n + 1) (q :: t) = next (statement (q :: t)) fun s => next (statements n s.2) fun l => .ok (s.1 :: l) := rfl
    rw [e] at h
    obtain ⟨s, h1, h2⟩ := next_is h
    obtain ⟨f1, f2, f3⟩ := statement_fine h1 ht
    obtain ⟨l, h3, h4⟩ := next_is h2
    obtain ⟨k1, k2⟩ := statements_fine n _ _ h3 f2
    cases h4
    refine ⟨fun y hy => ?_, by rw [List.map_cons, List.sum_cons]; omega⟩
    rcases List.mem_cons.mp hy with z | z
    · rw [z]
      exact f1
    · exact k1 y z
theorem draft_fine {b : Bytes} {d : Draft} (h : readDraft b = .ok d) : (∀ s ∈ d, stFine s) ∧ (d.map stW).sum ≤ b.length := by
  rw [readDraft_is] at h
  obtain ⟨t1, t2⟩ := lx_fine b.length b 0 (Nat.le_refl _)
  unfold whole at h
  cases e : statements 128 (lx 0 b).1 with
  | error o =>
    rw [e] at h
    cases h
  | ok l =>
    rw [e] at h
    have el : l = d := by
      cases e2 : (lx 0 b).2 with
      | some p => simp [e2] at h
      | none => simpa [e2] using h
    subst el
    obtain ⟨k1, k2⟩ := statements_fine _ _ _ e t1
    exact ⟨k1, by omega⟩
/-! ### printed parts -/
abbrev Pt := Nat × List Bytes
def firm : E → Nat
  | .op c _ _ => if c = 43 ∨ c = 45 then 0 else 1
  | _ => 2
def partOf (e : E) : Pt := (firm e, (toks 0 e).map tokText)
def atP (f : Nat) (p : Pt) : List Bytes := if p.1 < f then [40] :: (p.2 ++ [[41]]) else p.2
theorem toks_op (l : Nat) (c : UInt8) (a b : E) : toks l (.op c a b) = if c = 43 ∨ c = 45 then (if l = 0 then toks 0 a ++ (Tok.sign c :: toks 1 b) else .sign 40 :: ((toks 0 a ++ (Tok.sign c :: toks 1 b)) ++ [.sign 41]))
    else (if l ≤ 1 then toks 1 a ++ (Tok.sign c :: toks 2 b) else .sign 40 :: ((toks 1 a ++ (Tok.sign c :: toks 2 b)) ++ [.sign 41])) := rfl
theorem firm_op (c : UInt8) (a b : E) : firm (.op c a b) = if c = 43 ∨ c = 45 then 0 else 1 := rfl
theorem toks_at (l : Nat) (hl : l ≤ 2) (e : E) : toks l e = if firm e < l then .sign 40 :: (toks 0 e ++ [.sign 41]) else toks 0 e := by
  cases e with
  | op c a b =>
    rw [toks_op, toks_op]
    by_cases h : c = 43 ∨ c = 45
    · have ef : firm (.op c a b) = 0 := by rw [firm_op, if_pos h]
      rw [ef, if_pos h, if_pos h, if_pos rfl]
      by_cases z : l = 0
      · rw [if_pos z, if_neg (by omega)]
      · rw [if_neg z, if_pos (by omega)]
    · have ef : firm (.op c a b) = 1 := by rw [firm_op, if_neg h]
      rw [ef, if_neg h, if_neg h]
      have z0 : (if 0 ≤ 1 then toks 1 a ++ (Tok.sign c :: toks 2 b) else .sign 40 :: ((toks 1 a ++ (Tok.sign c :: toks 2 b)) ++ [.sign 41])) = toks 1 a ++ (Tok.sign c :: toks 2 b) := if_pos (by decide)
      rw [z0]
      by_cases z : l ≤ 1
      · rw [if_pos z, if_neg (show ¬ 1 < l by omega)]
      · rw [if_neg z, if_pos (show 1 < l by omega)]
  | _ => rw [if_neg (by show ¬ 2 < l; omega)]; rfl
theorem atP_is (f : Nat) (hf : f ≤ 2) (e : E) : atP f (partOf e) = (toks f e).map tokText := by
  rw [toks_at f hf]
  unfold atP partOf
  by_cases h : firm e < f
  · rw [if_pos h, if_pos h]
    simp [tokText]
  · rw [if_neg h, if_neg h]
def signP (c : UInt8) (a b : Pt) : Pt := if c = 43 ∨ c = 45 then (0, a.2 ++ [c] :: atP 1 b) else (1, atP 1 a ++ [c] :: atP 2 b)
def sepP : Nat → List Pt → List Bytes
  | _, [] => []
  | i, p :: r => (if i = 0 then [40] else [44]) :: (p.2 ++ sepP (i + 1) r)
def headP (g : Nat) : List Bytes := if g = 4 then [] else [wordOf g]
def withP (g : Nat) (l : List Pt) : Pt := (2, headP g ++ (sepP 0 l ++ [[41]]))
inductive Step : List Pt → Bytes × Bytes → List Pt → Prop
  | leaf {s : List Pt} {w x : Bytes} : w = sNumber ∨ w = sSumN ∨ w = sPlaceN → Step s (w, x) (s ++ [(2, [x])])
  | neg {s : List Pt} {p : Pt} {x : Bytes} : Step (s ++ [p]) (sNeg, x) (s ++ [(2, [45] :: atP 2 p)])
  | op {s : List Pt} {a b : Pt} {c : UInt8} {x : Bytes} : (c = 43 ∨ c = 45 ∨ c = 42 ∨ c = 47) → Step (s ++ [a, b]) ([c], x) (s ++ [signP c a b])
  | call {s l : List Pt} {g : Nat} {x : Bytes} : g < 11 → l.length = (takesOf g).length → Step (s ++ l) (whatOf g, x) (s ++ [withP g l])
inductive Run : List Pt → List (Bytes × Bytes) → List Pt → Prop
  | nil {s : List Pt} : Run s [] s
  | cons {s s' t : List Pt} {x : Bytes × Bytes} {r : List (Bytes × Bytes)} : Step s x s' → Run s' r t → Run s (x :: r) t
theorem Run.append {xs ys : List (Bytes × Bytes)} {s t u : List Pt} (h : Run s xs t) (k : Run t ys u) : Run s (xs ++ ys) u := by
  induction h with
  | nil => exact k
  | cons a _ ih => exact .cons a (ih k)
theorem Run.snoc {xs : List (Bytes × Bytes)} {x : Bytes × Bytes} {s t u : List Pt} (h : Run s xs t) (k : Step t x u) : Run s (xs ++ [x]) u := h.append (.cons k .nil)
theorem with1 (f : Nat) (a : E) : withP f [partOf a] = partOf (.call1 f a) := by
  unfold withP partOf sepP sepP headP firm
  simp only [toks, opened]
  by_cases h : f = 4
  · simp [h, tokText]
  · simp [h, tokText]
theorem with2 (f : Nat) (a b : E) : withP f [partOf a, partOf b] = partOf (.call2 f a b) := by
  unfold withP partOf sepP sepP sepP headP firm
  simp only [toks, opened]
  by_cases h : f = 4
  · simp [h, tokText]
  · simp [h, tokText]
theorem with3 (f : Nat) (a b c : E) : withP f [partOf a, partOf b, partOf c] = partOf (.call3 f a b c) := by
  unfold withP partOf sepP sepP sepP sepP headP firm
  simp only [toks, opened]
  by_cases h : f = 4
  · simp [h, tokText]
  · simp [h, tokText]
theorem with4 (f : Nat) (a b c d : E) : withP f [partOf a, partOf b, partOf c, partOf d] = partOf (.call4 f a b c d) := by
  unfold withP partOf sepP sepP sepP sepP sepP headP firm
  simp only [toks, opened]
  by_cases h : f = 4
  · simp [h, tokText]
  · simp [h, tokText]
theorem run_of : ∀ (p : Bool) (e : E) (s : List Pt), eFine e → Run s (stK p e) (s ++ [partOf e])
  | _, .num n k, s, _ => .cons (.leaf (.inl rfl)) .nil
  | true, .name b, s, _ => .cons (.leaf (.inr (.inr rfl))) .nil
  | false, .name b, s, _ => .cons (.leaf (.inr (.inl rfl))) .nil
  | _, .neg a, s, h => by
    refine (run_of _ a s h).snoc ?_
    have e : partOf (.neg a) = (2, [45] :: atP 2 (partOf a)) := by
      rw [atP_is 2 (by decide)]
      rfl
    rw [e]
    exact .neg
  | _, .op c a b, s, h => by
    obtain ⟨h1, h2, h3⟩ := h
    refine ((run_of _ a s h2).append (run_of _ b _ h3)).snoc ?_
    rw [List.append_assoc]
    have e : partOf (.op c a b) = signP c (partOf a) (partOf b) := by
      unfold signP
      rw [atP_is 1 (by decide), atP_is 1 (by decide), atP_is 2 (by decide)]
      by_cases z : c = 43 ∨ c = 45
      · rw [if_pos z]
        simp [partOf, firm, toks, z, tokText]
      · rw [if_neg z]
        simp [partOf, firm, toks, z, tokText]
    rw [e]
    exact .op h1
  | _, .call1 f a, s, h => by
    obtain ⟨⟨h1, h2⟩, h3⟩ := h
    refine (run_of _ a s h3).snoc ?_
    rw [← with1]
    exact .call (l := [partOf a]) h1 h2.symm
  | _, .call2 f a b, s, h => by
    obtain ⟨⟨h1, h2⟩, h3, h4⟩ := h
    refine ((run_of _ a s h3).append (run_of _ b _ h4)).snoc ?_
    rw [← with2, List.append_assoc]
    exact .call (l := [partOf a, partOf b]) h1 h2.symm
  | _, .call3 f a b c, s, h => by
    obtain ⟨⟨h1, h2⟩, h3, h4, h5⟩ := h
    refine (((run_of _ a s h3).append (run_of _ b _ h4)).append (run_of _ c _ h5)).snoc ?_
    rw [← with3, List.append_assoc, List.append_assoc]
    exact .call (l := [partOf a, partOf b, partOf c]) h1 h2.symm
  | _, .call4 f a b c d, s, h => by
    obtain ⟨⟨h1, h2⟩, h3, h4, h5, h6⟩ := h
    refine ((((run_of _ a s h3).append (run_of _ b _ h4)).append (run_of _ c _ h5)).append (run_of _ d _ h6)).snoc ?_
    rw [← with4, List.append_assoc, List.append_assoc, List.append_assoc]
    exact .call (l := [partOf a, partOf b, partOf c, partOf d]) h1 h2.symm
def wP (s : List Pt) : Nat := (s.map fun p => p.2.length).sum
theorem wP_app (s t : List Pt) : wP (s ++ t) = wP s + wP t := by
  unfold wP
  rw [List.map_append, List.sum_append]
theorem atP_len (f : Nat) (p : Pt) : (atP f p).length ≤ p.2.length + 2 := by
  unfold atP
  split
  · simp
  · omega
theorem sepP_len : ∀ (l : List Pt) (i : Nat), (sepP i l).length = l.length + wP l
  | [], _ => rfl
  | p :: r, i => by
    unfold sepP
    rw [List.length_cons, List.length_append, sepP_len r]
    show _ = r.length + 1 + wP ([p] ++ r)
    rw [wP_app]
    show p.2.length + _ + 1 = _
    unfold wP
    simp only [List.map_cons, List.map_nil, List.sum_cons, List.sum_nil]
    omega
theorem step_w {s s' : List Pt} {x : Bytes × Bytes} (h : Step s x s') : wP s' ≤ wP s + 6 ∧ s'.length ≤ s.length + 1 := by
  cases h with
  | leaf _ =>
    rw [wP_app]
    exact ⟨by simp [wP], by simp⟩
  | neg =>
    rename_i s p x
    have q := atP_len 2 p
    rw [wP_app, wP_app]
    exact ⟨by simp [wP]; omega, by simp⟩
  | op _ =>
    rename_i s a b c x hc
    have q1 := atP_len 1 a
    have q2 := atP_len 1 b
    have q3 := atP_len 2 b
    rw [wP_app, wP_app]
    refine ⟨?_, by simp⟩
    unfold signP
    split <;> (simp [wP]; omega)
  | call g11 hl =>
    rename_i s l g x
    have q := sepP_len l 0
    have w := (takes_len ⟨g, g11⟩).2
    have w : (takesOf g).length ≤ 4 := w
    have w1 := (takes_len ⟨g, g11⟩).1
    have w1 : 1 ≤ (takesOf g).length := w1
    rw [wP_app, wP_app]
    refine ⟨?_, by simp only [List.length_append, List.length_cons, List.length_nil]; omega⟩
    have e : wP [withP g l] = (headP g).length + ((sepP 0 l).length + 1) := by
      simp [wP, withP]
    rw [e, q]
    have hh : (headP g).length ≤ 1 := by
      unfold headP
      split <;> simp
    omega
end SD
set_option Elab.async false
/-! # A statement's tokens, its line -/
namespace SD
open SeamNum SeamPoly SeamPattern SeamText
theorem run_w {xs : List (Bytes × Bytes)} {s t : List Pt} (h : Run s xs t) : wP t ≤ wP s + 6 * xs.length := by
  induction h with
  | nil => omega
  | cons a _ ih =>
    have q := (step_w a).1
    rw [List.length_cons]
    omega
theorem toks_len {e : E} (h : eFine e) : (toks 0 e).length ≤ 6 * (stepsOf e).length := by
  have q := run_w (run_of false e [] h)
  rw [stK_len] at q
  have z : wP ([] ++ [partOf e]) = (toks 0 e).length := by
    simp [wP, partOf]
  rw [z] at q
  have z2 : wP [] = 0 := rfl
  omega
/-! ### numbers begin with a digit -/
theorem decimal_head : ∀ n : Nat, ∃ c r, decimal n = c :: r ∧ isDigit c = true
  | n => by
    by_cases h : n < 10
    · have all : ∀ m : Fin 10, decimal m.val = [UInt8.ofNat (48 + m.val)] ∧ isDigit (UInt8.ofNat (48 + m.val)) = true := by decide +kernel
      obtain ⟨a1, a2⟩ := all ⟨n, h⟩
      exact ⟨_, [], a1, a2⟩
    · have hq : n / 10 < n := Nat.div_lt_self (by omega) (by decide)
      obtain ⟨c, r, e, hc⟩ := decimal_head (n / 10)
      have hm : n % 10 < 10 := Nat.mod_lt _ (by decide)
      have all : ∀ m : Fin 10, isDigit (UInt8.ofNat (48 + m.val)) = true ∧ dg (UInt8.ofNat (48 + m.val)) = m.val := by decide +kernel
      obtain ⟨a1, a2⟩ := all ⟨n % 10, hm⟩
      have q := decimal_step (n := n / 10) (c := UInt8.ofNat (48 + n % 10)) (by omega) a1
      have a2 : dg (UInt8.ofNat (48 + n % 10)) = n % 10 := a2
      rw [a2] at q
      have e2 : 10 * (n / 10) + n % 10 = n := by omega
      rw [e2] at q
      exact ⟨c, r ++ [UInt8.ofNat (48 + n % 10)], by rw [q, e]; rfl, hc⟩
termination_by n => n
theorem point_head (n k : Nat) : ∃ c r, pointText n k = c :: r ∧ isDigit c = true := by
  unfold pointText
  by_cases h : k = 0
  · rw [if_pos h]
    exact decimal_head n
  · rw [if_neg h]
    obtain ⟨c, r, e, hc⟩ := decimal_head (n / 10 ^ k)
    rw [e]
    exact ⟨c, _, rfl, hc⟩
/-! ### tokens that may be printed -/
def pFine (t : Tok) : Prop := tokFine t ∧ ∀ c, t = .sign c → signs.contains c = true
def pAll (l : List Tok) : Prop := ∀ t ∈ l, pFine t
theorem pAll.nil : pAll [] := fun _ h => absurd h (by simp)
theorem pAll.cons {t : Tok} {l : List Tok} (h : pFine t) (k : pAll l) : pAll (t :: l) := fun x hx => by
  rcases List.mem_cons.mp hx with z | z
  · rw [z]
    exact h
  · exact k x z
theorem pAll.append {l m : List Tok} (h : pAll l) (k : pAll m) : pAll (l ++ m) := fun x hx => by
  rcases List.mem_append.mp hx with z | z
  · exact h x z
  · exact k x z
theorem pFine.sign {c : UInt8} (h : signs.contains c = true) : pFine (.sign c) := ⟨trivial, fun d e => by cases e; exact h⟩
theorem pFine.name {b : Bytes} (h : nmFine b) : pFine (.name b) := ⟨h, fun d e => by cases e⟩
theorem word_fine' : ∀ f : Fin 11, f.val = 4 ∨ nmFine (wordOf f.val) := fun f => by
  have all : ∀ f : Fin 11, f.val = 4 ∨ (isLetter ((wordOf f.val).headD 0) = true ∧ (wordOf f.val).length ≤ 40) := by decide +kernel
  exact all f
theorem opened_fine {f : Nat} (h : f < 11) : pAll (opened f) := by
  unfold opened
  refine pAll.append ?_ (.cons (.sign (by decide +kernel)) .nil)
  by_cases z : f = 4
  · rw [if_pos z]
    exact .nil
  · rw [if_neg z]
    rcases word_fine' ⟨f, h⟩ with q | q
    · exact absurd q z
    · exact .cons (.name q) .nil
theorem op_sign {c : UInt8} (h : c = 43 ∨ c = 45 ∨ c = 42 ∨ c = 47) : pFine (.sign c) := .sign (by rcases h with z | z | z | z <;> rw [z] <;> decide +kernel)
theorem toks_fine : ∀ (e : E) (l : Nat), eFine e → pAll (toks l e)
  | .num n k, l, h => .cons ⟨h, fun c e => by cases e⟩ .nil
  | .name b, l, h => .cons (.name h) .nil
  | .neg a, l, h => .cons (.sign (by decide +kernel)) (toks_fine a 2 h)
  | .op c a b, l, h => by
    obtain ⟨h1, h2, h3⟩ := h
    have p40 : pFine (.sign 40) := .sign (by decide +kernel)
    have p41 : pFine (.sign 41) := .sign (by decide +kernel)
    rw [toks_op]
    by_cases z : c = 43 ∨ c = 45
    · rw [if_pos z]
      have q := (toks_fine a 0 h2).append (.cons (op_sign h1) (toks_fine b 1 h3))
      split
      · exact q
      · exact .cons p40 (q.append (.cons p41 .nil))
    · rw [if_neg z]
      have q := (toks_fine a 1 h2).append (.cons (op_sign h1) (toks_fine b 2 h3))
      split
      · exact q
      · exact .cons p40 (q.append (.cons p41 .nil))
  | .call1 f a, l, h => by
    obtain ⟨⟨h1, _⟩, h3⟩ := h
    exact (opened_fine h1).append ((toks_fine a 0 h3).append (.cons (.sign (by decide +kernel)) .nil))
  | .call2 f a b, l, h => by
    obtain ⟨⟨h1, _⟩, h3, h4⟩ := h
    exact (opened_fine h1).append ((toks_fine a 0 h3).append (.cons (.sign (by decide +kernel)) ((toks_fine b 0 h4).append (.cons (.sign (by decide +kernel)) .nil))))
  | .call3 f a b c, l, h => by
    obtain ⟨⟨h1, _⟩, h3, h4, h5⟩ := h
    exact (opened_fine h1).append ((toks_fine a 0 h3).append (.cons (.sign (by decide +kernel)) ((toks_fine b 0 h4).append (.cons (.sign (by decide +kernel)) ((toks_fine c 0 h5).append (.cons (.sign (by decide +kernel)) .nil))))))
  | .call4 f a b c d, l, h => by
    obtain ⟨⟨h1, _⟩, h3, h4, h5, h6⟩ := h
    exact (opened_fine h1).append ((toks_fine a 0 h3).append (.cons (.sign (by decide +kernel)) ((toks_fine b 0 h4).append (.cons (.sign (by decide +kernel)) ((toks_fine c 0 h5).append (.cons (.sign (by decide +kernel)) ((toks_fine d 0 h6).append (.cons (.sign (by decide +kernel)) .nil))))))))
/-! ### blanks -/
def apartB (x y : Bytes) : Bool := if x = [40] ∨ ([[44], [41], [59]] : List Bytes).contains y = true then false else !(decide (y = [40]) && (SUMB.contains x || PLACEB.contains x))
def joinB : List Bytes → Bytes
  | [] => []
  | [x] => x
  | x :: y :: r => x ++ ((if apartB x y = true then [32] else []) ++ joinB (y :: r))
theorem letter_not : ∀ c : UInt8, isLetter c = true → c ≠ 40 ∧ c ≠ 41 ∧ c ≠ 44 ∧ c ≠ 59 := all_u8 (p := fun c => isLetter c = true → c ≠ 40 ∧ c ≠ 41 ∧ c ≠ 44 ∧ c ≠ 59) (by decide +kernel)
theorem digit_not : ∀ c : UInt8, isDigit c = true → c ≠ 40 ∧ c ≠ 41 ∧ c ≠ 44 ∧ c ≠ 59 := all_u8 (p := fun c => isDigit c = true → c ≠ 40 ∧ c ≠ 41 ∧ c ≠ 44 ∧ c ≠ 59) (by decide +kernel)
theorem is_of {t : Tok} (h : pFine t) {c : UInt8} (hc : c = 40 ∨ c = 41 ∨ c = 44 ∨ c = 59) : decide (tokText t = [c]) = (t.is == c) := by
  cases t with
  | sign s =>
    show decide ([s] = [c]) = (s == c)
    by_cases e : s = c
    · subst e
      simp
    · rw [decide_eq_false (fun z => e (by injection z)), beq_eq_false_iff_ne.mpr e]
  | name b =>
    obtain ⟨⟨h1, _⟩, _⟩ := h
    have q := letter_not _ h1
    have e1 : ¬ b = [c] := fun z => by
      rw [z, List.headD_cons] at q
      rcases hc with w | w | w | w
      · exact q.1 w
      · exact q.2.1 w
      · exact q.2.2.1 w
      · exact q.2.2.2 w
    show decide (b = [c]) = ((0 : UInt8) == c)
    rw [decide_eq_false e1]
    rcases hc with w | w | w | w <;> rw [w] <;> rfl
  | num n k =>
    obtain ⟨d, r, e, hd⟩ := point_head n k
    have q := digit_not _ hd
    have e1 : ¬ pointText n k = [c] := fun z => by
      rw [e] at z
      injection z with z1 z2
      rw [z1] at q
      rcases hc with w | w | w | w
      · exact q.1 w
      · exact q.2.1 w
      · exact q.2.2.1 w
      · exact q.2.2.2 w
    show decide (pointText n k = [c]) = ((0 : UInt8) == c)
    rw [decide_eq_false e1]
    rcases hc with w | w | w | w <;> rw [w] <;> rfl
theorem sums_is (b : Bytes) : (ofSums b).isSome = SUMB.contains b := by
  cases e : ofSums b with
  | none =>
    cases q : SUMB.contains b with
    | false => rfl
    | true =>
      obtain ⟨g, hg, eg⟩ := sum_mem q
      rw [eg, sums_of ⟨g, hg⟩] at e
      cases e
  | some g =>
    obtain ⟨_, h4, e2⟩ := sums_word e
    rw [← e2]
    exact (mem_sum ⟨g, h4⟩).symm
theorem places_is (b : Bytes) : (ofPlaces b).isSome = PLACEB.contains b := by
  cases e : ofPlaces b with
  | none =>
    cases q : PLACEB.contains b with
    | false => rfl
    | true =>
      obtain ⟨g, h5, hg, eg⟩ := place_mem q
      rw [eg, places_of ⟨g, hg⟩ h5] at e
      cases e
  | some g =>
    obtain ⟨_, h5, h11, e2⟩ := places_word e
    rw [← e2]
    exact (mem_place ⟨g, h11⟩ h5).symm
theorem digit_letter' : ∀ c : UInt8, isDigit c = true → isLetter c = false := all_u8 (p := fun c => isDigit c = true → isLetter c = false) (by decide +kernel)
theorem sign_letter : ∀ c ∈ signs, isLetter c = false := by decide +kernel
theorem no_word {b : Bytes} (h : isLetter (b.headD 0) = false) : SUMB.contains b = false ∧ PLACEB.contains b = false := by
  have a1 : ∀ x ∈ SUMB, isLetter (x.headD 0) = true := by decide +kernel
  have a2 : ∀ x ∈ PLACEB, isLetter (x.headD 0) = true := by decide +kernel
  constructor
  · cases q : SUMB.contains b with
    | false => rfl
    | true =>
      rw [a1 b (List.contains_iff_mem.mp q)] at h
      cases h
  · cases q : PLACEB.contains b with
    | false => rfl
    | true =>
      rw [a2 b (List.contains_iff_mem.mp q)] at h
      cases h
theorem fn_of {t : Tok} (h : pFine t) : (SUMB.contains (tokText t) || PLACEB.contains (tokText t)) = t.fn := by
  cases t with
  | name b =>
    show _ = ((ofSums b).isSome || (ofPlaces b).isSome)
    rw [sums_is, places_is]
    rfl
  | num n k =>
    obtain ⟨d, r, e, hd⟩ := point_head n k
    have q := no_word (b := pointText n k) (by rw [e]; exact digit_letter' d hd)
    show (SUMB.contains (pointText n k) || PLACEB.contains (pointText n k)) = false
    rw [q.1, q.2]
    rfl
  | sign s =>
    have hs := h.2 s rfl
    have q := no_word (b := [s]) (sign_letter s (List.contains_iff_mem.mp hs))
    show (SUMB.contains [s] || PLACEB.contains [s]) = false
    rw [q.1, q.2]
    rfl
theorem beq_dec (a b : Bytes) : (a == b) = decide (a = b) := by
  by_cases e : a = b
  · subst e
    simp
  · rw [decide_eq_false e]
    exact beq_eq_false_iff_ne.mpr e
theorem apart_is {x y : Tok} (hx : pFine x) (hy : pFine y) : apartB (tokText x) (tokText y) = parting x y := by
  have x40 := is_of hx (c := 40) (.inl rfl)
  have y40 := is_of hy (c := 40) (.inl rfl)
  have y41 := is_of hy (c := 41) (.inr (.inl rfl))
  have y44 := is_of hy (c := 44) (.inr (.inr (.inl rfl)))
  have y59 := is_of hy (c := 59) (.inr (.inr (.inr rfl)))
  have fx := fn_of hx
  have ec : ([[44], [41], [59]] : List Bytes).contains (tokText y) = ([44, 41, 59] : List UInt8).contains y.is := by
    simp only [List.contains_cons, List.contains_nil, Bool.or_false]
    have b1 : (tokText y == ([44] : Bytes)) = (y.is == 44) := by rw [← y44]; exact beq_dec _ _
    have b2 : (tokText y == ([41] : Bytes)) = (y.is == 41) := by rw [← y41]; exact beq_dec _ _
    have b3 : (tokText y == ([59] : Bytes)) = (y.is == 59) := by rw [← y59]; exact beq_dec _ _
    rw [b1, b2, b3]
  unfold apartB parting
  rw [ec, fx, y40]
  cases hA : ([44, 41, 59] : List UInt8).contains y.is with
  | true => simp
  | false =>
    by_cases h40 : tokText x = [40]
    · rw [decide_eq_true h40] at x40
      rw [← x40, if_pos (.inl h40)]
      rfl
    · rw [decide_eq_false h40] at x40
      rw [← x40, if_neg (by rintro (z | z); exact h40 z; cases z)]
      rfl
theorem join_is : ∀ l : List Tok, pAll l → joinB (l.map tokText) = joined l
  | [], _ => rfl
  | [x], _ => rfl
  | x :: y :: r, h => by
    have hx := h x List.mem_cons_self
    have hr : pAll (y :: r) := fun t ht => h t (List.mem_cons_of_mem _ ht)
    have hy := hr y List.mem_cons_self
    have ih := join_is (y :: r) hr
    show tokText x ++ ((if apartB (tokText x) (tokText y) = true then [32] else []) ++ joinB ((y :: r).map tokText)) = tokText x ++ ((if parting x y = true then [32] else []) ++ joined (y :: r))
    rw [ih, apart_is hx hy]
theorem text_len {t : Tok} (h : pFine t) : (tokText t).length ≤ 40 := by
  cases t with
  | name b => exact h.1.2
  | num n k => exact h.1
  | sign s => exact (by decide : 1 ≤ 40)
theorem joinB_len : ∀ l : List Bytes, (∀ b ∈ l, b.length ≤ 40) → (joinB l).length ≤ 41 * l.length
  | [], _ => by simp [joinB]
  | [x], h => by
    have q := h x (by simp)
    show x.length ≤ 41 * 1
    omega
  | x :: y :: r, h => by
    have q := h x (by simp)
    have ih := joinB_len (y :: r) fun b hb => h b (List.mem_cons_of_mem _ hb)
    show (x ++ ((if apartB x y = true then [32] else []) ++ joinB (y :: r))).length ≤ _
    rw [List.length_append, List.length_append, List.length_cons]
    have z : (if apartB x y = true then ([32] : Bytes) else []).length ≤ 1 := by
      split <;> simp
    omega
/-! ### a statement's tokens -/
def sepC : Nat → List Bytes → List Bytes
  | _, [] => []
  | i, c :: r => (if i = 0 then [40] else [44]) :: c :: sepC (i + 1) r
def ptok (e : E) : List Bytes := (toks 0 e).map tokText
def stB : St → List Bytes
  | .let_ n e => [wLet, n, [61]] ++ ptok e
  | .point n e => [wPoint, n, [61]] ++ ptok e
  | .piece n cs g h => [wPiece, n] ++ sepC 0 cs ++ [[41], GRAIN] ++ [g, h]
  | .seam a p q b r s => [wSeam] ++ [a, p, q] ++ [[44]] ++ [b, r, s]
theorem listed_is : ∀ (r : List Bytes) (c : Bytes) (i : Nat), (listed (c :: r)).map tokText = c :: sepC (i + 1) r
  | [], c, i => rfl
  | d :: r, c, i => by
    have ih := listed_is r d (i + 1)
    show c :: [44] :: (listed (d :: r)).map tokText = c :: (if i + 1 = 0 then [40] else [44]) :: d :: sepC (i + 1 + 1) r
    rw [ih, if_neg (by omega)]
theorem listed_fine : ∀ (l : List Bytes), (∀ c ∈ l, nmFine c) → pAll (listed l)
  | [], _ => .nil
  | [c], h => .cons (.name (h c (by simp))) .nil
  | c :: d :: r, h => .cons (.name (h c (by simp))) (.cons (.sign (by decide +kernel)) (listed_fine (d :: r) fun x hx => h x (List.mem_cons_of_mem _ hx)))
theorem st_toks {s : St} (h : stFine s) : s.toks.map tokText = stB s ++ [[59]] ∧ pAll s.toks := by
  have wf : ∀ b ∈ [wLet, wPoint, wPiece, wSeam, GRAIN], nmFine b := by
    have all : ∀ b ∈ [wLet, wPoint, wPiece, wSeam, GRAIN], isLetter (b.headD 0) = true ∧ b.length ≤ 40 := by decide +kernel
    exact all
  have p59 : pFine (.sign 59) := .sign (by decide +kernel)
  cases s with
  | let_ n e =>
    refine ⟨?_, (pAll.cons (.name (wf wLet (by simp))) (.cons (.name h.1) (.cons (.sign (by decide +kernel)) .nil))).append ((toks_fine e 0 h.2).append (.cons p59 .nil))⟩
    show ([.name (ascii "let"), .name n, .sign 61] ++ (toks 0 e ++ [.sign 59]) : List Tok).map tokText = _
    rw [List.map_append, List.map_append]
    show [wLet, n, [61]] ++ (ptok e ++ [[59]]) = [wLet, n, [61]] ++ ptok e ++ [[59]]
    rw [List.append_assoc]
  | point n e =>
    refine ⟨?_, (pAll.cons (.name (wf wPoint (by simp))) (.cons (.name h.1) (.cons (.sign (by decide +kernel)) .nil))).append ((toks_fine e 0 h.2).append (.cons p59 .nil))⟩
    show ([.name (ascii "point"), .name n, .sign 61] ++ (toks 0 e ++ [.sign 59]) : List Tok).map tokText = _
    rw [List.map_append, List.map_append]
    show [wPoint, n, [61]] ++ (ptok e ++ [[59]]) = [wPoint, n, [61]] ++ ptok e ++ [[59]]
    rw [List.append_assoc]
  | piece n cs g k =>
    obtain ⟨h1, h2, h3, h4, h5⟩ := h
    refine ⟨?_, (pAll.cons (.name (wf wPiece (by simp))) (.cons (.name h1) (.cons (.sign (by decide +kernel)) .nil))).append ((listed_fine cs h2).append (.cons (.sign (by decide +kernel)) (.cons (.name (wf GRAIN (by simp))) (.cons (.name h4) (.cons (.name h5) (.cons p59 .nil))))))⟩
    cases cs with
    | nil => exact absurd rfl h3
    | cons c r =>
      show ([.name (ascii "piece"), .name n, .sign 40] ++ (listed (c :: r) ++ [.sign 41, .name GRAIN, .name g, .name k, .sign 59]) : List Tok).map tokText = _
      rw [List.map_append, List.map_append, listed_is r c 0]
      show [wPiece, n, [40]] ++ (c :: sepC 1 r ++ [[41], GRAIN, g, k, [59]]) = [wPiece, n] ++ ([40] :: c :: sepC 1 r) ++ [[41], GRAIN] ++ [g, k] ++ [[59]]
      simp
  | seam a p q b r s =>
    obtain ⟨h1, h2, h3, h4, h5, h6⟩ := h
    exact ⟨rfl, .cons (.name (wf wSeam (by simp))) (.cons (.name h1) (.cons (.name h2) (.cons (.name h3) (.cons (.sign (by decide +kernel)) (.cons (.name h4) (.cons (.name h5) (.cons (.name h6) (.cons p59 .nil))))))))⟩
theorem sepC_len : ∀ (l : List Bytes) (i : Nat), (sepC i l).length = 2 * l.length
  | [], _ => rfl
  | c :: r, i => by
    show (sepC (i + 1) r).length + 1 + 1 = _
    rw [sepC_len r, List.length_cons]
    omega
theorem stB_len {s : St} (h : stFine s) : (stB s).length + 1 ≤ 9 * stW s := by
  cases s with
  | let_ n e =>
    have q := toks_len h.2
    show ([wLet, n, [61]] ++ ptok e).length + 1 ≤ 9 * ((stepsOf e).length + 1)
    rw [List.length_append]
    unfold ptok
    rw [List.length_map]
    show 3 + _ + 1 ≤ _
    omega
  | point n e =>
    have q := toks_len h.2
    show ([wPoint, n, [61]] ++ ptok e).length + 1 ≤ 9 * ((stepsOf e).length + 1)
    rw [List.length_append]
    unfold ptok
    rw [List.length_map]
    show 3 + _ + 1 ≤ _
    omega
  | piece n cs g k =>
    have q := sepC_len cs 0
    have h3 := h.2.2.1
    have h4 : 1 ≤ cs.length := by
      cases cs with
      | nil => exact absurd rfl h3
      | cons c r => simp
    show ([wPiece, n] ++ sepC 0 cs ++ [[41], GRAIN] ++ [g, k]).length + 1 ≤ 9 * (cs.length + 1)
    simp only [List.length_append, List.length_cons, List.length_nil]
    omega
  | seam a p q b r s => exact (by decide : 9 ≤ 9)
def lineB (s : St) : Bytes := joinB (stB s ++ [[59]]) ++ [10]
theorem line_is {s : St} (h : stFine s) : lineB s = joined s.toks ++ [10] := by
  obtain ⟨h1, h2⟩ := st_toks h
  unfold lineB
  rw [← h1, join_is _ h2]
theorem line_len {s : St} (h : stFine s) : (lineB s).length ≤ 370 * stW s := by
  obtain ⟨h1, h2⟩ := st_toks h
  have q := stB_len h
  unfold lineB
  have z := joinB_len (stB s ++ [[59]]) fun b hb => by
    rw [← h1] at hb
    obtain ⟨t, ht, e⟩ := List.mem_map.mp hb
    rw [← e]
    exact text_len (h2 t ht)
  rw [List.length_append] at z
  rw [List.length_append]
  simp only [List.length_cons, List.length_nil] at z ⊢
  have w : 1 ≤ stW s := by
    cases s <;> simp [stW]
  omega
theorem printed_is : ∀ {d : Draft}, (∀ s ∈ d, stFine s) → printed d = d.flatMap lineB
  | [], _ => rfl
  | s :: d, h => by
    have ih := printed_is (d := d) fun x hx => h x (List.mem_cons_of_mem _ hx)
    unfold printed at ih ⊢
    rw [List.flatMap_cons, List.flatMap_cons, ih, line_is (h s List.mem_cons_self)]
theorem lines_len : ∀ {d : Draft}, (∀ s ∈ d, stFine s) → (d.flatMap lineB).length ≤ 370 * (d.map stW).sum
  | [], _ => by simp
  | s :: d, h => by
    have ih := lines_len (d := d) fun x hx => h x (List.mem_cons_of_mem _ hx)
    have q := line_len (h s List.mem_cons_self)
    rw [List.flatMap_cons, List.length_append, List.map_cons, List.sum_cons]
    omega
theorem tokens_short {s : St} (h : stFine s) : ∀ b ∈ stB s ++ [[59]], b.length ≤ 40 := fun b hb => by
  obtain ⟨h1, h2⟩ := st_toks h
  rw [← h1] at hb
  obtain ⟨t, ht, e⟩ := List.mem_map.mp hb
  rw [← e]
  exact text_len (h2 t ht)
end SD
set_option Elab.async false
set_option linter.all false
set_option maxRecDepth 100000
set_option maxHeartbeats 4000000
/-! # Printing: a part in parentheses, two parts with a sign, a word with its parts -/
namespace SDP
open PySem PySem.Spec PyProof.Rows L2 SDX SD TL
open SeamNum (Bytes)
open SeamText (takesOf wordOf)
/-- a printed part's tuple; its list is such as ok says -/
def PartR (ok : Addr → Prop) (H : Hp) (a : Addr) (p : Pt) : Prop := ∃ tl, H a = some (.tup [.int (p.1 : Int), .ref tl]) ∧ H tl = some (strL p.2) ∧ ok tl
theorem PartR.imp {ok ok' : Addr → Prop} {H : Hp} {a : Addr} {p : Pt} (h : PartR ok H a p) (k : ∀ x, ok x → ok' x) : PartR ok' H a p := by
  obtain ⟨tl, h1, h2, h3⟩ := h
  exact ⟨tl, h1, h2, k _ h3⟩
theorem PartR.kp {ok : Addr → Prop} {M : List Addr} {H H' : Hp} {a : Addr} {p : Pt} (h : PartR ok H a p) (k : Kp M H H') (hm : ∀ x, ok x → x ∉ M) : PartR ok H' a p := by
  obtain ⟨tl, h1, h2, h3⟩ := h
  exact ⟨tl, k _ _ h1 (.inr rfl), k _ _ h2 (.inl (hm _ h3)), h3⟩
theorem PartR.same {ok : Addr → Prop} {H H' : Hp} {a : Addr} {p : Pt} (h : PartR ok H a p) (s : Same H H') : PartR ok H' a p := h.kp (Kp.same (M := []) s) (by simp)
structure PrG (K : PySem.W.Frag) (w : World) (mg : Str → Option Value) : Prop where
  SUM : Gi mg "SUM" 0
  PRODUCT : Gi mg "PRODUCT" 1
  FACTOR : Gi mg "FACTOR" 2
  NEG : Gs mg "NEGATIVE" sNeg
  PAIR : Gs mg "PAIR" (SeamNum.ascii "pair")
  SUMN : Gs mg "SUM_NAME" sSumN
  PLN : Gs mg "PLACE_NAME" sPlaceN
  NUMBER : Gs mg "NUMBER" sNumber
  SW : Gt K mg "SUM_WORDS" SUMB
  PW : Gt K mg "PLACE_WORDS" PLACEB
  len : mg "len" = none
  enum : mg "enumerate" = none
  ord : mg "ord" = none
section
variable {P : Program} {w : World} {K : PySem.W.Frag} {mg : Str → Option Value} {base : Heap}
theorem scAtL : FnScope ["firmness", "part"] ["firmness", "part"] (defScope sAtL) := ⟨rfl, rfl, rfl, by decide +kernel, rfl, by decide +kernel, by decide +kernel⟩
theorem scSignW : FnScope ["sign", "left", "right"] ["sign", "left", "right"] (defScope sSignW) := ⟨rfl, rfl, rfl, by decide +kernel, rfl, by decide +kernel, by decide +kernel⟩
theorem scWith : FnScope ["what", "parts", "tokens", "index", "part"] ["what", "parts"] (defScope sWith) := ⟨rfl, rfl, rfl, by decide +kernel, rfl, by decide +kernel, by decide +kernel⟩
def spAtL : Sp := fun vs H Q _ => ∃ (f : Nat) (a : Addr) (p : Pt), vs = [.int (f : Int), .ref a] ∧ PartR (fun _ => True) H a p ∧ p.2.length ≤ 100000 ∧ ∀ H' tl, Same H H' → H' tl = some (strL (atP f p)) → Q (.ref tl) H'
theorem ok_atL {f : Addr} {fd : FuncData} (F : Fn1 K mg "at_least" sAtL ["firmness", "part"] f fd) : FnOk P w K mg base CX0 1 f fd ["firmness", "part"] spAtL := by
  refine F.F.ok scAtL (fun vs H Q E h => ?_) (fun cdv A outer s H vs Q E hr h => ?_)
  · obtain ⟨n, a, p, rfl, _⟩ := h
    rfl
  obtain ⟨n, a, p, rfl, ⟨tl, h1, h2, _⟩, hl, q⟩ := h
  refine ⟨_, pss_cons (ps_if (pt_cmpR op_lt (pe_ix ix_seq (pv 1) pe_int (fun _ _ => rfl)) (pv 0) (nomark _)) (pss_one (ps_ret (pe_op op_cat (pe_op op_cat (pe_lst (pa_cons pe_str pa_nil)) (pe_ix ix_seq (pv 1) pe_int (fun _ _ => rfl))) (pe_lst (pa_cons pe_str pa_nil))))) pss_nil)
    (pss_one (ps_ret (pe_ix ix_seq (pv 1) pe_int (fun _ _ => rfl)))), ?_⟩
  have e40 : Str.ofString "(" = tx [40] := by decide +kernel
  have e41 : Str.ofString ")" = tx [41] := by decide +kernel
  refine ⟨_, rfl, .inr (.inl ⟨a, _, 0, .int (p.1 : Int), rfl, rfl, SqT.of h1, atI_nat (j := 0) rfl, _, rfl, _, _, rfl, rfl, _, rfl, ?_⟩)⟩
  rw [e40, e41]
  refine ite2 (fun c => ?_) (fun c => ?_)
  · have c' : p.1 < n := by have := of_decide_eq_true c; omega
    refine ⟨by show 1 ≤ sizeLine; decide, fun p1 hp1 => ?_⟩
    have s1 : Same H (upd H p1 (.lst [.str (tx [40])])) := same_new hp1 _
    have e1 : (upd H p1 (.lst [.str (tx [40])])) p1 = some (.lst [.str (tx [40])]) := upd_same
    generalize upd H p1 (.lst [.str (tx [40])]) = H1 at s1 e1 ⊢
    refine ⟨_, rfl, .inr (.inl ⟨a, _, 1, .ref tl, rfl, rfl, SqT.of (s1 _ _ h1), atI_nat (j := 1) rfl, p1, tl, _, _, rfl, rfl, e1, s1 _ _ h2, by rw [List.length_map, sizeLine_eq]; show 1 + _ ≤ _; omega, fun p2 hp2 => ?_⟩)⟩
    have s2 : Same H1 (upd H1 p2 (.lst ([.str (tx [40])] ++ p.2.map fun b => V.str (tx b)))) := same_new hp2 _
    have e2 : (upd H1 p2 (.lst ([.str (tx [40])] ++ p.2.map fun b => V.str (tx b)))) p2 = some (.lst ([.str (tx [40])] ++ p.2.map fun b => V.str (tx b))) := upd_same
    generalize upd H1 p2 (.lst ([.str (tx [40])] ++ p.2.map fun b => V.str (tx b))) = H2 at s2 e2 ⊢
    refine ⟨by show 1 ≤ sizeLine; decide, fun p3 hp3 => ?_⟩
    have s3 : Same H2 (upd H2 p3 (.lst [.str (tx [41])])) := same_new hp3 _
    refine ⟨p2, p3, _, _, rfl, rfl, s3 _ _ e2, upd_same, by rw [List.length_append, List.length_map, sizeLine_eq]; show 1 + _ + 1 ≤ _; omega, fun p4 hp4 => ?_⟩
    refine q _ p4 (((s1.trans s2).trans s3).trans (same_new hp4 _)) ?_
    rw [upd_same]
    unfold atP strL
    rw [if_pos c', List.map_cons, List.map_append]
    rfl
  · have c' : ¬ p.1 < n := by have := of_decide_eq_false (Bool.eq_false_iff.mpr c); omega
    refine ⟨_, rfl, .inr (.inl ⟨a, _, 1, .ref tl, rfl, rfl, SqT.of h1, atI_nat (j := 1) rfl, ?_⟩)⟩
    refine q H tl (Same.refl H) ?_
    unfold atP
    rw [if_neg c']
    exact h2
def spSignW : Sp := fun vs H Q _ => ∃ (c : UInt8) (a b : Addr) (p r : Pt), vs = [.str (tx [c]), .ref a, .ref b] ∧ PartR (fun _ => True) H a p ∧ PartR (fun _ => True) H b r ∧ p.2.length ≤ 100000 ∧ r.2.length ≤ 100000 ∧
  ∀ H' x, Same H H' → PartR (fun tl => H tl = none) H' x (signP c p r) → Q (.ref x) H'
theorem sign_in (c : UInt8) : ([[43], [45]] : List Bytes).contains [c] = decide (c = 43 ∨ c = 45) := by
  by_cases h1 : c = 43
  · subst h1
    rfl
  · by_cases h2 : c = 45
    · subst h2
      rfl
    · rw [decide_eq_false (by rintro (z | z); exact h1 z; exact h2 z)]
      simp only [List.contains_cons, List.contains_nil, Bool.or_false]
      have b1 : (([c] : Bytes) == [43]) = false := beq_eq_false_iff_ne.mpr fun z => h1 (by injection z)
      have b2 : (([c] : Bytes) == [45]) = false := beq_eq_false_iff_ne.mpr fun z => h2 (by injection z)
      rw [b1, b2]
      rfl
theorem ok_signW {f fA : Addr} {fd dA : FuncData} (G : PrG K w mg) (FA : Fn1 K mg "at_least" sAtL ["firmness", "part"] fA dA) (F : Fn1 K mg "with_sign" sSignW ["sign", "left", "right"] f fd) : FnOk P w K mg base CX0 2 f fd ["sign", "left", "right"] spSignW := by
  refine F.F.ok scSignW (fun vs H Q E h => ?_) (fun cdv A outer s H vs Q E hr h => ?_)
  · obtain ⟨c, a, b, p, r, rfl, _⟩ := h
    rfl
  obtain ⟨c, a, b, p, r, rfl, ⟨t1, h1, h2, _⟩, ⟨t2, k1, k2, _⟩, l1, l2, q⟩ := h
  refine ⟨_, pss_cons (ps_if (pt_cmpR op_in_seq (pv 0) (pe_tup (pa_cons pe_str (pa_cons pe_str pa_nil))) (by rfl))
      (pss_one (ps_ret (pe_tup (pa_cons (pe_gi rfl G.SUM) (pa_cons (pe_op op_cat (pe_op op_cat (pe_ix ix_seq (pv 1) pe_int (fun _ _ => rfl)) (pe_lst (pa_cons (pv 0) pa_nil))) (pe_call (ok_atL FA) hr rfl FA.m FA.F.kp FA.b .nil pass0 (pa_cons (pe_gi rfl G.PRODUCT) (pa_cons (pv 2) pa_nil)))) pa_nil))))) pss_nil)
    (pss_one (ps_ret (pe_tup (pa_cons (pe_gi rfl G.PRODUCT) (pa_cons (pe_op op_cat (pe_op op_cat (pe_call (ok_atL FA) hr rfl FA.m FA.F.kp FA.b .nil pass0 (pa_cons (pe_gi rfl G.PRODUCT) (pa_cons (pv 1) pa_nil))) (pe_lst (pa_cons (pv 0) pa_nil)))
      (pe_call (ok_atL FA) hr rfl FA.m FA.F.kp FA.b .nil pass0 (pa_cons (pe_gi rfl G.FACTOR) (pa_cons (pv 2) pa_nil)))) pa_nil))))), ?_⟩
  have e43 : Str.ofString "+" = tx [43] := by decide +kernel
  have e45 : Str.ofString "-" = tx [45] := by decide +kernel
  refine ⟨_, rfl, (by show 2 ≤ sizeLine; decide), fun p0 hp0 => ?_⟩
  have s0 : Same H (upd H p0 (.tup [.str (Str.ofString "+"), .str (Str.ofString "-")])) := same_new hp0 _
  refine ⟨p0, _, rfl, .inr (SqT.of upd_same), rfl, rfl, ?_⟩
  rw [e43, e45] at s0 ⊢
  have ein : inV (V.str (tx [c])) [V.str (tx [43]), V.str (tx [45])] = ([[43], [45]] : List Bytes).contains [c] := inV_tx [c] [[43], [45]]
  generalize upd H p0 (.tup [.str (tx [43]), .str (tx [45])]) = H0 at s0 ⊢
  rw [if_neg Bool.false_ne_true, ein, sign_in]
  have aP1 := atP_len 1 p
  have aR1 := atP_len 1 r
  have aR2 := atP_len 2 r
  by_cases hc : c = 43 ∨ c = 45
  · rw [decide_eq_true hc]
    refine ⟨_, rfl, iteT ?_⟩
    refine ⟨_, rfl, .inr (.inl ⟨a, _, 1, .ref t1, rfl, rfl, SqT.of (s0 _ _ h1), atI_nat (j := 1) rfl, _, rfl, (by show 1 ≤ sizeLine; decide), fun p1 hp1 => ?_⟩)⟩
    have s1 : Same H0 (upd H0 p1 (.lst [.str (tx [c])])) := same_new hp1 _
    refine ⟨t1, p1, _, _, rfl, rfl, s1 _ _ (s0 _ _ h2), upd_same, by rw [List.length_map, sizeLine_eq]; show _ + 1 ≤ _; omega, fun p2 hp2 => ?_⟩
    generalize upd H0 p1 (.lst [.str (tx [c])]) = H1 at s1 hp2 ⊢
    have s2 : Same H1 (upd H1 p2 (.lst ((p.2.map fun b => V.str (tx b)) ++ [.str (tx [c])]))) := same_new hp2 _
    have e2 : (upd H1 p2 (.lst ((p.2.map fun b => V.str (tx b)) ++ [.str (tx [c])]))) p2 = some (.lst ((p.2.map fun b => V.str (tx b)) ++ [.str (tx [c])])) := upd_same
    generalize upd H1 p2 (.lst ((p.2.map fun b => V.str (tx b)) ++ [.str (tx [c])])) = H2 at s2 e2 ⊢
    have s02 : Same H H2 := (s0.trans s1).trans s2
    refine ⟨_, rfl, 1, b, r, rfl, ⟨t2, s02 _ _ k1, s02 _ _ k2, trivial⟩, l2, fun H3 tl s3 e3 => ?_⟩
    refine ⟨p2, tl, _, _, rfl, rfl, s3 _ _ e2, e3, by rw [List.length_append, List.length_map, List.length_map, sizeLine_eq]; show _ + 1 + _ ≤ _; omega, fun p4 hp4 => ?_⟩
    have s4 := same_new (H := H3) hp4 (.lst (((p.2.map fun b => V.str (tx b)) ++ [.str (tx [c])]) ++ (atP 1 r).map fun b => V.str (tx b)))
    refine ⟨(by show 2 ≤ sizeLine; decide), fun x hx => ?_⟩
    have n4 : p4 ≠ x := fun z => by rw [← z, upd_same] at hx; cases hx
    refine q _ x (((s02.trans s3).trans s4).trans (same_new hx _)) ⟨p4, ?_, ?_, (s02.trans s3).free hp4⟩
    · rw [upd_same]
      unfold signP
      rw [if_pos hc]
      rfl
    · rw [upd_ne n4, upd_same]
      unfold signP strL
      rw [if_pos hc]
      show _ = some (HO.lst ((p.2 ++ [c] :: atP 1 r).map fun b => V.str (tx b)))
      rw [List.map_append, List.append_assoc]
      rfl
  · rw [decide_eq_false hc]
    refine ⟨_, rfl, iteF ?_⟩
    refine ⟨_, rfl, 1, a, p, rfl, ⟨t1, s0 _ _ h1, s0 _ _ h2, trivial⟩, l1, fun H1 tl1 s1 e1 => ?_⟩
    refine ⟨_, rfl, (by show 1 ≤ sizeLine; decide), fun p1 hp1 => ?_⟩
    have s2 : Same H1 (upd H1 p1 (.lst [.str (tx [c])])) := same_new hp1 _
    refine ⟨tl1, p1, _, _, rfl, rfl, s2 _ _ e1, upd_same, by rw [List.length_map, sizeLine_eq]; show _ + 1 ≤ _; omega, fun p2 hp2 => ?_⟩
    generalize upd H1 p1 (.lst [.str (tx [c])]) = H2 at s2 hp2 ⊢
    have s3 : Same H2 (upd H2 p2 (.lst (((atP 1 p).map fun b => V.str (tx b)) ++ [.str (tx [c])]))) := same_new hp2 _
    have e3 : (upd H2 p2 (.lst (((atP 1 p).map fun b => V.str (tx b)) ++ [.str (tx [c])]))) p2 = some (.lst (((atP 1 p).map fun b => V.str (tx b)) ++ [.str (tx [c])])) := upd_same
    generalize upd H2 p2 (.lst (((atP 1 p).map fun b => V.str (tx b)) ++ [.str (tx [c])])) = H3 at s3 e3 ⊢
    have s03 : Same H H3 := ((s0.trans s1).trans s2).trans s3
    refine ⟨_, rfl, 2, b, r, rfl, ⟨t2, s03 _ _ k1, s03 _ _ k2, trivial⟩, l2, fun H4 tl s4 e4 => ?_⟩
    refine ⟨p2, tl, _, _, rfl, rfl, s4 _ _ e3, e4, by rw [List.length_append, List.length_map, List.length_map, sizeLine_eq]; show _ + 1 + _ ≤ _; omega, fun p4 hp4 => ?_⟩
    have s5 := same_new (H := H4) hp4 (.lst ((((atP 1 p).map fun b => V.str (tx b)) ++ [.str (tx [c])]) ++ (atP 2 r).map fun b => V.str (tx b)))
    refine ⟨(by show 2 ≤ sizeLine; decide), fun x hx => ?_⟩
    have n4 : p4 ≠ x := fun z => by rw [← z, upd_same] at hx; cases hx
    refine q _ x (((s03.trans s4).trans s5).trans (same_new hx _)) ⟨p4, ?_, ?_, (s03.trans s4).free hp4⟩
    · rw [upd_same]
      unfold signP
      rw [if_neg hc]
      rfl
    · rw [upd_ne n4, upd_same]
      unfold signP strL
      rw [if_neg hc]
      show _ = some (HO.lst ((atP 1 p ++ [c] :: atP 2 r).map fun b => V.str (tx b)))
      rw [List.map_append, List.append_assoc]
      rfl
end
end SDP
set_option Elab.async false
set_option linter.all false
set_option maxRecDepth 100000
set_option maxHeartbeats 4000000
namespace SDP
open PySem PySem.Spec PyProof.Rows L2 SDX SD TL
open SeamNum (Bytes)
open SeamText (takesOf wordOf)
theorem sepP_snoc (p : Pt) : ∀ (l : List Pt) (j : Nat), sepP j (l ++ [p]) = sepP j l ++ ((if j + l.length = 0 then [40] else [44]) :: p.2)
  | [], j => by
    show (if j = 0 then [40] else [44]) :: (p.2 ++ []) = [] ++ ((if j + 0 = 0 then [40] else [44]) :: p.2)
    rw [List.append_nil]
    rfl
  | q :: r, j => by
    show (if j = 0 then [40] else [44]) :: (q.2 ++ sepP (j + 1) (r ++ [p])) = ((if j = 0 then [40] else [44]) :: (q.2 ++ sepP (j + 1) r)) ++ _
    rw [sepP_snoc p r (j + 1), List.cons_append, List.append_assoc, List.length_cons]
    have e : j + 1 + r.length = j + (r.length + 1) := by omega
    rw [e]
def PL (ok : Addr → Prop) (H : Hp) (p : Addr) (l : List Pt) : Prop := ∃ as : List Addr, H p = some (.lst (as.map V.ref)) ∧ Paired (fun a x => PartR ok H a x) as l
theorem wP_take (l : List Pt) (i : Nat) : wP (l.take i) ≤ wP l := by
  conv => rhs; rw [← List.take_append_drop i l]
  rw [wP_app]
  omega
theorem wP_at {l : List Pt} {i : Nat} {x : Pt} (h : l[i]? = some x) : x.2.length ≤ wP l := by
  have e : l.take (i + 1) = l.take i ++ [x] := by
    rw [List.take_add_one, h]
    rfl
  have q := wP_take l (i + 1)
  rw [e, wP_app] at q
  have z : wP [x] = x.2.length := by simp [wP]
  omega
theorem dec_0 (n : Nat) : decide (V.int (n : Int) = V.int 0) = decide (n = 0) := by
  by_cases e : n = 0
  · subst e
    rfl
  · rw [decide_eq_false e]
    exact decide_eq_false fun z => e (by injection z with z; omega)
theorem what_pair {g : Nat} (hg : g < 11) : decide (whatOf g = SeamNum.ascii "pair") = decide (g = 4) := by
  have all : ∀ g : Fin 11, decide (whatOf g.val = SeamNum.ascii "pair") = decide (g.val = 4) := by decide +kernel
  exact all ⟨g, hg⟩
def spWith : Sp := fun vs H Q _ => ∃ (g : Nat) (p : Addr) (l : List Pt), vs = [.str (tx (whatOf g)), .ref p] ∧ g < 11 ∧ PL (fun _ => True) H p l ∧ wP l ≤ 100000 ∧ l.length ≤ 4 ∧
  ∀ H' x, Same H H' → PartR (fun tl => H tl = none) H' x (withP g l) → Q (.ref x) H'
section
variable {P : Program} {w : World} {K : PySem.W.Frag} {mg : Str → Option Value} {base : Heap}
theorem ok_with {f : Addr} {fd : FuncData} (G : PrG K w mg) (F : Fn1 K mg "with_parts" sWith ["what", "parts"] f fd) : FnOk P w K mg base CX0 1 f fd ["what", "parts"] spWith := by
  refine F.F.ok scWith (fun vs H Q E h => ?_) (fun cdv A outer s H vs Q E hr h => ?_)
  · obtain ⟨g, p, l, rfl, _⟩ := h
    rfl
  obtain ⟨g, p, l, rfl, hg, ⟨as, hp, hpd⟩, hw, h4, q⟩ := h
  refine ⟨_, pss_cons (ps_set (i := 2) scWith.nd rfl (Or.inl rfl) (pe_lst pa_nil))
    (pss_cons (ps_if (pt_cmpR op_ne (pv 0) (pe_gs rfl G.PAIR) (by rfl)) (pss_one (ps_expr (pe_bm PySem.F.plainAttrs_list PySem.F.slot_list_append PySem.F.type_list_append mt_append (pv 2) (pa_cons (pv 0) pa_nil)))) pss_nil)
    (pss_cons (ps_for PassesOwn.never rfl (pi_enum rfl G.enum (pa_cons (pv 1) pa_nil)) (pg_tup rfl (pgs_cons (pg_name (i := 3) scWith.nd rfl (Or.inl rfl)) (pgs_cons (pg_name (i := 4) scWith.nd rfl (Or.inl rfl)) pgs_nil)))
      (pss_cons (ps_expr (pe_bm PySem.F.plainAttrs_list PySem.F.slot_list_append PySem.F.type_list_append mt_append (pv 2) (pa_cons (pe_ifExp (pt_cmpR op_eq (pv 3) pe_int (by rfl)) pe_str pe_str) pa_nil)))
      (pss_one (ps_expr (pe_bm PySem.F.plainAttrs_list PySem.F.slot_list_extend PySem.F.type_list_extend mt_extend (pv 2) (pa_cons (pe_ix ix_seq (pv 4) pe_int (fun _ _ => rfl)) pa_nil))))))
    (pss_cons (ps_expr (pe_bm PySem.F.plainAttrs_list PySem.F.slot_list_append PySem.F.type_list_append mt_append (pv 2) (pa_cons pe_str pa_nil)))
    (pss_one (ps_ret (pe_tup (pa_cons (pe_gi rfl G.FACTOR) (pa_cons (pv 2) pa_nil)))))))), ?_⟩
  have e40 : Str.ofString "(" = tx [40] := by decide +kernel
  have e41 : Str.ofString ")" = tx [41] := by decide +kernel
  have e44 : Str.ofString "," = tx [44] := by decide +kernel
  have hh : (headP g).length ≤ 1 := by
    unfold headP
    split <;> simp
  have lenA : as.length = l.length := Paired.length hpd
  refine ⟨(by show 0 ≤ sizeLine; decide), fun T hT => ?_⟩
  have loop : ∀ (D : Ends) (H1 : Hp), Same H H1 → H1 T = some (strL (headP g)) → (∀ σ H', (∃ o1 o2, σ = [some (.str (tx (whatOf g))), some (.ref p), some (.ref T), o1, o2] ∧ Same H H' ∧ H' T = some (strL (headP g ++ sepP 0 l))) → D.nx σ H') →
      tFor (iEnum K (tCons (tVar 1) tNil)) (gTup K 2 (gCons (gName 3) (gCons (gName 4) gNil))) (tSeq (tDrop (tBM K "list" rAppend (tVar 2) (tCons (tIf (tTest (tOp rEq (tVar 3) (tC (V.int 0)))) (tC (V.str (Str.ofString "("))) (tC (V.str (Str.ofString ",")))) tNil)))
        (tDrop (tBM K "list" rExtend (tVar 2) (tCons (tOp (rIx K) (tVar 4) (tC (V.int 1))) tNil)))) D [some (.str (tx (whatOf g))), some (.ref p), some (.ref T), none, none] H1 := by
    intro D H1 s1 hT1 hD
    refine ⟨_, rfl, p, _, rfl, SqL.of (s1 _ _ hp), ?_⟩
    refine for_it walk_enum (fun i σ H' => ∃ o1 o2, σ = [some (.str (tx (whatOf g))), some (.ref p), some (.ref T), o1, o2] ∧ Same H H' ∧ H' T = some (strL (headP g ++ sepP 0 (l.take i)))) ⟨none, none, rfl, s1, by rw [List.take_zero]; unfold sepP; rw [List.append_nil]; exact hT1⟩
      (fun i σ H' _ ⟨_, _, _, s2, _⟩ => SqL.of (s2 _ _ hp)) (fun i x0 σ H1 H2 hi ⟨o1, o2, es, s2, hT1⟩ hy => ?_) (fun σ H2 ⟨o1, o2, es, s2, hT1⟩ => ?_)
    · subst es
      obtain ⟨Tp, x1, y1, rfl, hTp, rfl, e1, e2⟩ := hy
      injection e1 with e1
      subst e1
      rw [List.length_map] at hi
      have hi2 : i < l.length := by omega
      have ea : as[i]? = some as[i] := List.getElem?_eq_getElem hi
      have e2 : (as.map V.ref)[i]? = some y1 := e2
      rw [List.getElem?_map, ea] at e2
      injection e2 with e2
      subst e2
      have ex : l[i]? = some l[i] := List.getElem?_eq_getElem hi2
      obtain ⟨a', ea', pr⟩ := paired_at hpd i _ ex
      rw [ea] at ea'
      injection ea' with ea'
      obtain ⟨tl, ha, htl, _⟩ := pr
      rw [← ea'] at ha
      have hwx := wP_at ex
      generalize as[i] = a at ha ⊢
      generalize l[i] = x at ex ha htl hwx
      have s3 : Same H1 (upd H1 Tp (.tup [.int (i : Nat), .ref a])) := same_new hTp _
      refine ⟨Tp, _, rfl, SqT.of upd_same, rfl, _, _, rfl, _, _, rfl, rfl, ?_⟩
      generalize upd H1 Tp (.tup [.int (i : Nat), .ref a]) = H2 at s3 ⊢
      have hT2 := s3 _ _ hT1
      have s3 : Same H H2 := s2.trans s3
      have hlen : (headP g ++ sepP 0 (l.take i)).length ≤ 100010 := by
        have z := wP_take l i
        rw [List.length_append, sepP_len, List.length_take]
        omega
      refine ⟨_, rfl, .inl ⟨rfl, _, SqL.of hT2⟩, _, rfl, rfl, ?_⟩
      rw [dec_0]
      by_cases hi0 : i = 0
      · rw [decide_eq_true hi0]
        refine ⟨_, rfl, iteT ⟨T, _, _, rfl, rfl, hT2, by rw [List.length_map, sizeLine_eq]; omega, ?_⟩⟩
        rw [e40]
        have e4 : (upd H2 T (.lst ((headP g ++ sepP 0 (l.take i)).map (fun b => V.str (tx b)) ++ [.str (tx [40])]))) T = some (strL (headP g ++ sepP 0 (l.take i) ++ [[40]])) := by
          rw [upd_same]
          unfold strL
          rw [List.map_append (l₂ := [[40]])]
          rfl
        have k4 : Kp [T] H2 (upd H2 T (.lst ((headP g ++ sepP 0 (l.take i)).map (fun b => V.str (tx b)) ++ [.str (tx [40])]))) := Kp.put hT2 rfl (by simp)
        generalize upd H2 T (.lst ((headP g ++ sepP 0 (l.take i)).map (fun b => V.str (tx b)) ++ [.str (tx [40])])) = H3 at e4 k4 ⊢
        have s4 : Same H H3 := same_kp s3 k4 (by simp [hT])
        refine ⟨_, rfl, .inl ⟨rfl, _, SqL.of e4⟩, _, rfl, .inr (.inl ⟨a, _, 1, .ref tl, rfl, rfl, SqT.of (s4 _ _ ha), atI_nat (j := 1) rfl, T, tl, _, _, rfl, rfl, e4, s4 _ _ htl, by rw [List.length_map, List.length_map, List.length_append, sizeLine_eq]; show _ + 1 + _ ≤ _; omega, ?_⟩)⟩
        have k5 : Kp [T] H3 (upd H3 T (.lst ((headP g ++ sepP 0 (l.take i) ++ [[40]]).map (fun b => V.str (tx b)) ++ x.2.map fun b => V.str (tx b)))) := Kp.put e4 rfl (by simp)
        refine ⟨_, _, rfl, same_kp s4 k5 (by simp [hT]), ?_⟩
        rw [upd_same, ← List.map_append]
        unfold strL
        rw [List.take_add_one, ex, Option.toList_some, sepP_snoc, List.length_take, Nat.min_eq_left (by omega), Nat.zero_add, if_pos hi0, List.append_assoc, List.append_assoc]
        rfl
      · rw [decide_eq_false hi0]
        refine ⟨_, rfl, iteF ⟨T, _, _, rfl, rfl, hT2, by rw [List.length_map, sizeLine_eq]; omega, ?_⟩⟩
        rw [e44]
        have e4 : (upd H2 T (.lst ((headP g ++ sepP 0 (l.take i)).map (fun b => V.str (tx b)) ++ [.str (tx [44])]))) T = some (strL (headP g ++ sepP 0 (l.take i) ++ [[44]])) := by
          rw [upd_same]
          unfold strL
          rw [List.map_append (l₂ := [[44]])]
          rfl
        have k4 : Kp [T] H2 (upd H2 T (.lst ((headP g ++ sepP 0 (l.take i)).map (fun b => V.str (tx b)) ++ [.str (tx [44])]))) := Kp.put hT2 rfl (by simp)
        generalize upd H2 T (.lst ((headP g ++ sepP 0 (l.take i)).map (fun b => V.str (tx b)) ++ [.str (tx [44])])) = H3 at e4 k4 ⊢
        have s4 : Same H H3 := same_kp s3 k4 (by simp [hT])
        refine ⟨_, rfl, .inl ⟨rfl, _, SqL.of e4⟩, _, rfl, .inr (.inl ⟨a, _, 1, .ref tl, rfl, rfl, SqT.of (s4 _ _ ha), atI_nat (j := 1) rfl, T, tl, _, _, rfl, rfl, e4, s4 _ _ htl, by rw [List.length_map, List.length_map, List.length_append, sizeLine_eq]; show _ + 1 + _ ≤ _; omega, ?_⟩)⟩
        have k5 : Kp [T] H3 (upd H3 T (.lst ((headP g ++ sepP 0 (l.take i) ++ [[44]]).map (fun b => V.str (tx b)) ++ x.2.map fun b => V.str (tx b)))) := Kp.put e4 rfl (by simp)
        refine ⟨_, _, rfl, same_kp s4 k5 (by simp [hT]), ?_⟩
        rw [upd_same, ← List.map_append]
        unfold strL
        rw [List.take_add_one, ex, Option.toList_some, sepP_snoc, List.length_take, Nat.min_eq_left (by omega), Nat.zero_add, if_neg hi0, List.append_assoc, List.append_assoc]
        rfl
    · refine hD σ H2 ⟨o1, o2, es, s2, ?_⟩
      rw [List.length_map, lenA, List.take_length] at hT1
      exact hT1
  have fin : ∀ (H1 : Hp) (o1 o2 : Option V), Same H H1 → H1 T = some (strL (headP g ++ sepP 0 l)) → ∀ R : Hp → Prop, (∀ H2, Same H H2 → H2 T = some (strL (withP g l).2) → R H2) → (headP g ++ sepP 0 l).length ≤ 100010 ∧ R (upd H1 T (.lst ((headP g ++ sepP 0 l).map (fun b => V.str (tx b)) ++ [.str (tx [41])]))) := by
    intro H1 o1 o2 s1 hT1 R hR
    refine ⟨by rw [List.length_append, sepP_len]; omega, hR _ (same_kp s1 (Kp.put hT1 rfl (by simp) : Kp [T] H1 _) (by simp [hT])) ?_⟩
    rw [upd_same]
    unfold withP strL
    show _ = some (HO.lst ((headP g ++ (sepP 0 l ++ [[41]])).map fun b => V.str (tx b)))
    rw [← List.append_assoc, List.map_append (l₂ := [[41]])]
    rfl
  have wrap : ∀ (D : Ends), (∀ (x : Addr) (H2 : Hp), Same H H2 → H2 T = some (strL (withP g l).2) → H2 x = none → D.rt (.ref x) (upd H2 x (.tup [.int 2, .ref T]))) → ∀ σ H', (∃ o1 o2, σ = [some (.str (tx (whatOf g))), some (.ref p), some (.ref T), o1, o2] ∧ Same H H' ∧ H' T = some (strL (headP g ++ sepP 0 l))) →
      tSeq (tDrop (tBM K "list" rAppend (tVar 2) (tCons (tC (V.str (Str.ofString ")"))) tNil))) (tRet (tTup (tCons (tC (V.int 2)) (tCons (tVar 2) tNil)))) D σ H' := by
    rintro D hD σ H1 ⟨o1, o2, rfl, s1, hT1⟩
    rw [e41]
    have z := fin H1 o1 o2 s1 hT1 (fun H2 => tRet (tTup (tCons (tC (V.int 2)) (tCons (tVar 2) tNil))) D [some (.str (tx (whatOf g))), some (.ref p), some (.ref T), o1, o2] H2) fun H2 s2 hT2 => ⟨_, rfl, (by show 2 ≤ sizeLine; decide), fun x hx => hD x H2 s2 hT2 hx⟩
    exact ⟨_, rfl, .inl ⟨rfl, _, SqL.of hT1⟩, T, _, _, rfl, rfl, hT1, by rw [List.length_map, sizeLine_eq]; have := z.1; omega, z.2⟩
  have last : ∀ (x : Addr) (H2 : Hp), Same H H2 → H2 T = some (strL (withP g l).2) → H2 x = none → Q (.ref x) (upd H2 x (.tup [.int 2, .ref T])) := fun x H2 s2 hT2 hx => by
    have nT : T ≠ x := fun z => by rw [z, hx] at hT2; cases hT2
    exact q _ x (s2.trans (same_new hx _)) ⟨T, by rw [upd_same]; rfl, by rw [upd_ne nT]; exact hT2, hT⟩
  have s0 : Same H (upd H T (.lst [])) := same_new hT _
  refine ⟨_, rfl, rfl, ?_⟩
  rw [dec_str, what_pair hg]
  by_cases h44 : g = 4
  · rw [decide_eq_true h44]
    refine ⟨_, rfl, iteF ?_⟩
    refine loop _ _ s0 (by rw [upd_same]; unfold headP; rw [if_pos h44]; rfl) (wrap _ last)
  · rw [decide_eq_false h44]
    refine ⟨_, rfl, iteT ?_⟩
    refine ⟨_, rfl, .inl ⟨rfl, _, SqL.of upd_same⟩, _, rfl, T, _, _, rfl, rfl, upd_same, by show 0 < sizeLine; decide, ?_⟩
    refine loop _ _ (same_kp s0 (Kp.put upd_same rfl (by simp) : Kp [T] _ _) (by simp [hT])) (by rw [upd_same]; unfold headP whatOf; rw [if_neg h44, if_neg h44]; rfl) (wrap _ last)
end
end SDP
set_option Elab.async false
set_option linter.all false
set_option maxRecDepth 100000
set_option maxHeartbeats 4000000
namespace SDP
open PySem PySem.Spec PyProof.Rows L2 SDX SD TL
open SeamNum (Bytes)
open SeamText (takesOf wordOf)
theorem paired_unsnoc {α β : Type} {R : α → β → Prop} : ∀ {l : List α} {m : List β} {b : β}, Paired R l (m ++ [b]) → ∃ l0 a, l = l0 ++ [a] ∧ Paired R l0 m ∧ R a b
  | [], [], _, h => nomatch h
  | [], _ :: _, _, h => nomatch h
  | [x], [], _, .cons r _ => ⟨[], x, rfl, .nil, r⟩
  | x :: y :: l, [], _, .cons _ h => nomatch h
  | x :: l, c :: m, b, .cons r h => by
    obtain ⟨l0, a, e, h1, h2⟩ := paired_unsnoc (m := m) (b := b) h
    exact ⟨x :: l0, a, by rw [e]; rfl, .cons r h1, h2⟩
theorem paired_split {α β : Type} {R : α → β → Prop} : ∀ {l : List α} {m n : List β}, Paired R l (m ++ n) → Paired R (l.take m.length) m ∧ Paired R (l.drop m.length) n
  | l, [], n, h => ⟨by rw [List.length_nil, List.take_zero]; exact .nil, by rw [List.length_nil, List.drop_zero]; exact h⟩
  | [], _ :: _, _, h => nomatch h
  | x :: l, c :: m, n, .cons r h => by
    obtain ⟨h1, h2⟩ := paired_split (m := m) (n := n) h
    exact ⟨.cons r h1, h2⟩
theorem push {H1 : Hp} {p x : Addr} {as : List Addr} {s : List Pt} {q : Pt} (hp : H1 p = some (.lst (as.map V.ref))) (hpd : Paired (fun a y => PartR (fun tl => tl ≠ p) H1 a y) as s) (hx : PartR (fun tl => tl ≠ p) H1 x q) :
    PL (fun tl => tl ≠ p) (upd H1 p (.lst (as.map V.ref ++ [.ref x]))) p (s ++ [q]) := by
  have k : Kp [p] H1 (upd H1 p (.lst (as.map V.ref ++ [.ref x]))) := Kp.put hp rfl (by simp)
  refine ⟨as ++ [x], by rw [upd_same, List.map_append]; rfl, paired_snoc (paired_map (fun a y h => h.kp k fun z hz => by simp [hz]) hpd) (hx.kp k fun z hz => by simp [hz])⟩
theorem last_at {α : Type} (l : List α) (a : α) : (l ++ [a])[(l ++ [a]).length - 1]? = some a := by
  rw [List.length_append, List.length_singleton, Nat.add_sub_cancel, List.getElem?_append_right (Nat.le_refl _), Nat.sub_self]
  rfl
theorem pop_is {p : Addr} {H : Hp} {as0 : List Addr} {a0 : Addr} : upd H p (.lst (((as0 ++ [a0]).map V.ref).dropLast)) = upd H p (.lst (as0.map V.ref)) := by
  rw [List.map_append]
  show upd H p (.lst ((as0.map V.ref ++ [V.ref a0]).dropLast)) = _
  rw [List.dropLast_concat]
theorem cut_from {xs : List V} {k : Nat} (h : k ≤ xs.length) : cutV xs (some (k : Int)) none = xs.drop k := by
  unfold cutV
  rw [HT.sIx_nat, HT.sIx_none, Nat.min_eq_left h, List.take_of_length_le (by rw [List.length_drop]; exact Nat.le_refl _)]
theorem cut_to {xs : List V} {k : Nat} (h : k ≤ xs.length) : cutV xs none (some (k : Int)) = xs.take k := by
  unfold cutV
  rw [HT.sIx_nat, HT.sIx_none, Nat.min_eq_left h, List.drop_zero, Nat.sub_zero]
theorem what_no {g : Nat} (hg : g < 11) : ([sNumber, sSumN, sPlaceN] : List Bytes).contains (whatOf g) = false ∧ decide (whatOf g = sNeg) = false := by
  have all : ∀ g : Fin 11, ([sNumber, sSumN, sPlaceN] : List Bytes).contains (whatOf g.val) = false ∧ decide (whatOf g.val = sNeg) = false := by decide +kernel
  exact all ⟨g, hg⟩
theorem op_no {c : UInt8} : ([sNumber, sSumN, sPlaceN] : List Bytes).contains [c] = false ∧ decide (([c] : Bytes) = sNeg) = false := by
  have all : ∀ c : UInt8, ([sNumber, sSumN, sPlaceN] : List Bytes).contains [c] = false ∧ decide (([c] : Bytes) = sNeg) = false := all_u8 (p := fun c => ([sNumber, sSumN, sPlaceN] : List Bytes).contains [c] = false ∧ decide (([c] : Bytes) = sNeg) = false) (by decide +kernel)
  exact all c
def spStepsW : Sp := fun vs H Q _ => ∃ (st : Addr) (ss : List (Bytes × Bytes)) (p0 : Pt), vs = [.ref st] ∧ StepL H st ss ∧ Run [] ss [p0] ∧ ss.length ≤ 5000 ∧ ∀ H' tl, Same H H' → H' tl = some (strL p0.2) → Q (.ref tl) H'
section
variable {P : Program} {w : World} {K : PySem.W.Frag} {mg : Str → Option Value} {base : Heap}
theorem scStepsW : FnScope ["steps", "parts", "what", "text", "begin", "whole", "right", "left"] ["steps"] (defScope sStepsW) := ⟨rfl, rfl, rfl, by decide +kernel, rfl, by decide +kernel, by decide +kernel⟩
theorem ok_stepsW {f fA fS fW pa : Addr} {fd dA dS dW : FuncData} {es : Array DictEntry} {n : Nat} (G : PrG K w mg) (D : PartsK K w mg pa es n) (FA : Fn1 K mg "at_least" sAtL ["firmness", "part"] fA dA) (FS : Fn1 K mg "with_sign" sSignW ["sign", "left", "right"] fS dS) (FW : Fn1 K mg "with_parts" sWith ["what", "parts"] fW dW)
    (F : Fn1 K mg "tokens_of_steps" sStepsW ["steps"] f fd) : FnOk P w K mg base CX0 3 f fd ["steps"] spStepsW := by
  refine F.F.ok scStepsW (fun vs H Q E h => ?_) (fun cdv A outer s H vs Q E hr h => ?_)
  · obtain ⟨st, ss, p0, rfl, _⟩ := h
    rfl
  obtain ⟨st, ss, p0, rfl, ⟨sas, hst, hsp⟩, hrun, h5, q⟩ := h
  have hr1 : Room 1 _ := hr.mono (by decide)
  have KD : L2.KDict (cxOf CX0 P w K mg base ["steps", "parts", "what", "text", "begin", "whole", "right", "left"] "tokens_of_steps" (defScope sStepsW) f cdv A outer s H E).K w pa es n := D.kd
  refine ⟨_, (pss_cons (ps_set (i := 1) scStepsW.nd rfl (Or.inl rfl) (pe_lst pa_nil)) (pss_cons (ps_for PassesOwn.never rfl (pi_list (pv 0)) (pg_tup rfl (pgs_cons (pg_name (i := 2) scStepsW.nd rfl (Or.inl rfl)) (pgs_cons (pg_name (i := 3) scStepsW.nd rfl (Or.inl rfl)) pgs_nil))) (pss_one (ps_if (pt_cmpR op_in_seq (pv 2) (pe_tup (pa_cons (pe_gs rfl G.NUMBER) (pa_cons (pe_gs rfl G.SUMN) (pa_cons (pe_gs rfl G.PLN) pa_nil)))) (by rfl)) (pss_one (ps_expr (pe_bm PySem.F.plainAttrs_list PySem.F.slot_list_append PySem.F.type_list_append mt_append (pv 1) (pa_cons (pe_tup (pa_cons (pe_gi rfl G.FACTOR) (pa_cons (pe_lst (pa_cons (pv 3) pa_nil)) pa_nil))) pa_nil)))) (pss_one (ps_if (pt_cmpR op_eq (pv 2) (pe_gs rfl G.NEG) (by rfl)) (pss_one (ps_expr (pe_bm PySem.F.plainAttrs_list PySem.F.slot_list_append PySem.F.type_list_append mt_append (pv 1) (pa_cons (pe_tup (pa_cons (pe_gi rfl G.FACTOR) (pa_cons (pe_op op_cat (pe_lst (pa_cons pe_str pa_nil)) (pe_call (ok_atL FA) hr1 rfl FA.m FA.F.kp FA.b .nil pass0 (pa_cons (pe_gi rfl G.FACTOR) (pa_cons (pe_bm0 PySem.F.plainAttrs_list PySem.F.slot_list_pop PySem.F.type_list_pop mt_pop (pv 1)) pa_nil)))) pa_nil))) pa_nil)))) (pss_one (ps_if (pt_cmpR (op_in_kd KD) (pv 2) (pe_gr rfl D.g) (by rfl)) (pss_cons (ps_set (i := 4) scStepsW.nd rfl (Or.inl rfl) (pe_op op_sub (pe_callB call_len_seq rfl G.len PySem.boot_len (pa_cons (pv 1) pa_nil)) (pe_callB call_len_seq rfl G.len PySem.boot_len (pa_cons (pe_ix ix_kdict (pe_gr rfl D.g) (pv 2) (fun _ _ => rfl)) pa_nil)))) (pss_cons (ps_set (i := 5) scStepsW.nd rfl (Or.inl rfl) (pe_call (ok_with G FW) hr1 rfl FW.m FW.F.kp FW.b .nil pass0 (pa_cons (pv 2) (pa_cons (pe_slice sl_list (pv 1) (po_some (pv 4)) po_none) pa_nil)))) (pss_one (ps_set (i := 1) scStepsW.nd rfl (Or.inl rfl) (pe_op op_cat (pe_slice sl_list (pv 1) po_none (po_some (pv 4))) (pe_lst (pa_cons (pv 5) pa_nil))))))) (pss_cons (ps_set (i := 6) scStepsW.nd rfl (Or.inl rfl) (pe_bm0 PySem.F.plainAttrs_list PySem.F.slot_list_pop PySem.F.type_list_pop mt_pop (pv 1))) (pss_cons (ps_set (i := 7) scStepsW.nd rfl (Or.inl rfl) (pe_bm0 PySem.F.plainAttrs_list PySem.F.slot_list_pop PySem.F.type_list_pop mt_pop (pv 1))) (pss_one (ps_expr (pe_bm PySem.F.plainAttrs_list PySem.F.slot_list_append PySem.F.type_list_append mt_append (pv 1) (pa_cons (pe_call (ok_signW G FA FS) (hr.mono (by decide)) rfl FS.m FS.F.kp FS.b .nil pass0 (pa_cons (pv 2) (pa_cons (pv 7) (pa_cons (pv 6) pa_nil)))) pa_nil))))))))))))) (pss_one (ps_ret (pe_ix ix_seq (pe_ix ix_seq (pv 1) pe_int (fun _ _ => rfl)) pe_int (fun _ _ => rfl)))))), ?_⟩
  have e45 : Str.ofString "-" = tx [45] := by decide +kernel
  refine ⟨(by show 0 ≤ sizeLine; decide), fun p hp => ?_⟩
  have s0 : Same H (upd H p (.lst [])) := same_new hp _
  refine ⟨_, rfl, st, rfl, ⟨_, SqL.of (s0 _ _ hst)⟩, ?_⟩
  have lenS : sas.length = ss.length := Paired.length hsp
  refine for_it walk_list (fun i σ H' => ∃ (s : List Pt) (p : Addr) (o2 o3 o4 o5 o6 o7 : Option V), σ = [some (.ref st), some (.ref p), o2, o3, o4, o5, o6, o7] ∧ Same H H' ∧ PL (fun tl => tl ≠ p) H' p s ∧ H p = none ∧ Run s (ss.drop i) [p0] ∧ wP s ≤ 6 * i ∧ s.length ≤ i)
    ⟨[], p, none, none, none, none, none, none, rfl, s0, ⟨[], upd_same, .nil⟩, hp, by rw [List.drop_zero]; exact hrun, by simp [wP], Nat.zero_le _⟩ (fun i σ H' _ ⟨_, _, _, _, _, _, _, _, _, s2, _⟩ => SqL.of (s2 _ _ hst)) (fun i x0 σ H1 H2 hi hPv hy => ?_) (fun σ H2 hPv => ?_)
  · obtain ⟨s, p, o2, o3, o4, o5, o6, o7, rfl, s1, ⟨as, hp1, hpd⟩, hpn, hrun, hw, hsl⟩ := hPv
    obtain ⟨rfl, hx⟩ := hy
    rw [List.length_map] at hi
    have hi2 : i < ss.length := by omega
    have ex : ss[i]? = some ss[i] := List.getElem?_eq_getElem hi2
    obtain ⟨a, ea, ha⟩ := paired_at hsp i _ ex
    rw [List.getElem?_map, ea] at hx
    injection hx with hx
    subst hx
    have edrop : ss.drop i = ss[i] :: ss.drop (i + 1) := List.drop_eq_getElem_cons hi2
    generalize ss[i] = x at ex ha edrop
    rw [edrop] at hrun
    cases hrun with
    | cons hstep hrest =>
    rename_i s'
    obtain ⟨w1, w2⟩ := step_w hstep
    have hw' : wP s' ≤ 6 * (i + 1) := by omega
    have hsl' : s'.length ≤ i + 1 := by omega
    obtain ⟨what, text⟩ := x
    have ha1 := s1 _ _ ha
    refine ⟨a, _, rfl, SqT.of ha1, rfl, _, _, rfl, _, _, rfl, rfl, ?_⟩
    have lenA : as.length = s.length := Paired.length hpd
    refine ⟨_, rfl, (by show 3 ≤ sizeLine; decide), fun pt hpt => ?_⟩
    have sA : Same H2 (upd H2 pt (.tup [.str (tx sNumber), .str (tx sSumN), .str (tx sPlaceN)])) := same_new hpt _
    refine ⟨pt, _, rfl, .inr (SqT.of upd_same), rfl, rfl, ?_⟩
    have ein : inV (V.str (tx what)) [V.str (tx sNumber), V.str (tx sSumN), V.str (tx sPlaceN)] = ([sNumber, sSumN, sPlaceN] : List Bytes).contains what := inV_tx what [sNumber, sSumN, sPlaceN]
    have hp2 := sA _ _ hp1
    have hpd2 := paired_map (fun a y h => PartR.same h sA) hpd
    have s2 : Same H _ := s1.trans sA
    generalize upd H2 pt (.tup [.str (tx sNumber), .str (tx sSumN), .str (tx sPlaceN)]) = H3 at hp2 hpd2 s2 ⊢
    rw [if_neg Bool.false_ne_true, ein]
    clear hpd ein sA hp1 ha1
    -- what every case ends with
    have done : ∀ {H4 : Hp} {as4 : List Addr} {s4 : List Pt} {xq : Addr} {qq : Pt}, Same H H4 → H4 p = some (.lst (as4.map V.ref)) → Paired (fun a y => PartR (fun tl => tl ≠ p) H4 a y) as4 s4 → PartR (fun tl => tl ≠ p) H4 xq qq → s' = s4 ++ [qq] → ∀ (o4 o5 o6 o7 : Option V),
        ∃ (s : List Pt) (p' : Addr) (a2 a3 a4 a5 a6 a7 : Option V), [some (.ref st), some (.ref p), some (.str (tx what)), some (.str (tx text)), o4, o5, o6, o7] = [some (.ref st), some (.ref p'), a2, a3, a4, a5, a6, a7] ∧ Same H (upd H4 p (.lst (as4.map V.ref ++ [.ref xq]))) ∧ PL (fun tl => tl ≠ p') (upd H4 p (.lst (as4.map V.ref ++ [.ref xq]))) p' s ∧ H p' = none ∧ Run s (ss.drop (i + 1)) [p0] ∧ wP s ≤ 6 * (i + 1) ∧ s.length ≤ i + 1 := by
      intro H4 as4 s4 xq qq sm h4 hpd4 hx4 es4 o4 o5 o6 o7
      refine ⟨s', p, _, _, _, _, _, _, rfl, same_kp sm (Kp.put h4 rfl (by simp) : Kp [p] H4 _) (by simp [hpn]), ?_, hpn, hrest, hw', hsl'⟩
      rw [es4]
      exact push h4 hpd4 hx4
    cases hstep with
    | leaf hwh =>
      have hc : ([sNumber, sSumN, sPlaceN] : List Bytes).contains what = true := by
        rcases hwh with z | z | z <;> rw [z] <;> decide +kernel
      rw [hc]
      refine ⟨_, rfl, iteT ?_⟩
      refine ⟨_, rfl, .inl ⟨rfl, _, SqL.of hp2⟩, _, rfl, (by show 1 ≤ sizeLine; decide), fun t1 ht1 => ?_⟩
      have sB : Same H3 (upd H3 t1 (.lst [.str (tx text)])) := same_new ht1 _
      refine ⟨(by show 2 ≤ sizeLine; decide), fun x hx => ?_⟩
      have nx : t1 ≠ x := fun z => by rw [← z, upd_same] at hx; cases hx
      have np : t1 ≠ p := fun z => by rw [z, hp2] at ht1; cases ht1
      have sC : Same H3 (upd (upd H3 t1 (.lst [.str (tx text)])) x (.tup [.int 2, .ref t1])) := sB.trans (same_new hx _)
      refine ⟨p, _, _, rfl, rfl, sC _ _ hp2, by rw [List.length_map, lenA, sizeLine_eq]; omega, ?_⟩
      exact done (s2.trans sC) (sC _ _ hp2) (paired_map (fun a y h => PartR.same h sC) hpd2) ⟨t1, by rw [upd_same]; rfl, by rw [upd_ne nx, upd_same]; rfl, np⟩ rfl _ _ _ _
    | neg =>
      rename_i s4 p4
      have hc : ([sNumber, sSumN, sPlaceN] : List Bytes).contains sNeg = false := by decide +kernel
      rw [hc]
      refine ⟨_, rfl, iteF ?_⟩
      refine ⟨_, rfl, rfl, ?_⟩
      rw [dec_str, decide_eq_true (show sNeg = sNeg from rfl)]
      refine ⟨_, rfl, iteT ?_⟩
      obtain ⟨as0, a0, eas, hpd0, hpr⟩ := paired_unsnoc hpd2
      subst eas
      rw [e45]
      refine ⟨_, rfl, .inl ⟨rfl, _, SqL.of hp2⟩, (by show 1 ≤ sizeLine; decide), fun t1 ht1 => ?_⟩
      have sB : Same H3 (upd H3 t1 (.lst [.str (tx [45])])) := same_new ht1 _
      have e1 : (upd H3 t1 (.lst [.str (tx [45])])) t1 = some (.lst [.str (tx [45])]) := upd_same
      have n1 : t1 ≠ p := fun z => by rw [z, hp2] at ht1; cases ht1
      generalize upd H3 t1 (.lst [.str (tx [45])]) = H4 at sB e1 ⊢
      have hp4 := sB _ _ hp2
      refine ⟨_, rfl, .inl ⟨rfl, _, SqL.of hp4⟩, p, _, .ref a0, rfl, rfl, hp4, by rw [List.map_append]; exact last_at _ _, ?_⟩
      rw [pop_is]
      have kP : Kp [p] H4 (upd H4 p (.lst (as0.map V.ref))) := Kp.put hp4 rfl (by simp)
      have e5 : (upd H4 p (.lst (as0.map V.ref))) p = some (.lst (as0.map V.ref)) := upd_same
      generalize upd H4 p (.lst (as0.map V.ref)) = H5 at kP e5 ⊢
      have s5 : Same H H5 := same_kp (s2.trans sB) kP (by simp [hpn])
      have pr5 : PartR (fun tl => tl ≠ p) H5 a0 p4 := (hpr.same sB).kp kP fun z hz => by simp [hz]
      have hpd5 := paired_map (fun a y (h : PartR (fun tl => tl ≠ p) H3 a y) => (h.same sB).kp kP fun z hz => by simp [hz]) hpd0
      have wp4 : p4.2.length ≤ 100000 := by
        have z : wP (s4 ++ [p4]) = wP s4 + p4.2.length := by rw [wP_app]; simp [wP]
        omega
      refine ⟨2, a0, p4, rfl, pr5.imp fun _ _ => trivial, wp4, fun H6 tl s6 e6 => ?_⟩
      have at2 := atP_len 2 p4
      have e16 : H6 t1 = some (.lst [.str (tx [45])]) := s6 _ _ (kP _ _ e1 (.inl (by simp [n1])))
      refine ⟨t1, tl, _, _, rfl, rfl, e16, e6, by rw [List.length_map, sizeLine_eq]; show 1 + _ ≤ _; omega, fun t2 ht2 => ?_⟩
      have n2 : t2 ≠ p := fun z => by rw [z, s6 _ _ e5] at ht2; cases ht2
      have sC := same_new (H := H6) ht2 (.lst ([.str (tx [45])] ++ (atP 2 p4).map fun b => V.str (tx b)))
      refine ⟨(by show 2 ≤ sizeLine; decide), fun x hx => ?_⟩
      have nx : t2 ≠ x := fun z => by rw [← z, upd_same] at hx; cases hx
      have sD := (s6.trans sC).trans (same_new hx (.tup [.int 2, .ref t2]))
      have lenA0 : as0.length = s4.length := Paired.length hpd0
      refine ⟨p, _, _, rfl, rfl, sD _ _ e5, by rw [List.length_map, lenA0, sizeLine_eq]; simp only [List.length_append, List.length_cons, List.length_nil] at hsl; omega, ?_⟩
      exact done (s5.trans sD) (sD _ _ e5) (paired_map (fun a y h => PartR.same h sD) hpd5) ⟨t2, by rw [upd_same]; rfl, by rw [upd_ne nx, upd_same]; rfl, n2⟩ rfl _ _ _ _
    | call hg hl =>
      rename_i s4 l g
      obtain ⟨c1, c2⟩ := what_no hg
      rw [c1]
      refine ⟨_, rfl, iteF ?_⟩
      refine ⟨_, rfl, rfl, ?_⟩
      rw [dec_str, c2]
      refine ⟨_, rfl, iteF ?_⟩
      obtain ⟨b, nb, hb⟩ := D.at_ g hg
      have tl4 := (takes_len ⟨g, hg⟩).2
      have tl4 : (takesOf g).length ≤ 4 := tl4
      refine ⟨_, rfl, tx (whatOf g), some (.ref b), rfl, rfl, nb, _, rfl, iteT ?_⟩
      refine ⟨_, rfl, p, _, rfl, .inl (SqL.of hp2), _, rfl, pa, tx (whatOf g), .ref b, rfl, rfl, ⟨es, n, .ref b, D.kd.at_, D.kd.lit, nb, rfl⟩, b, _, rfl, .inr (hb H3), _, _, rfl, rfl, ?_⟩
      have lenT : as.length = s4.length + l.length := by rw [lenA, List.length_append]
      have ebeg : (((as.map V.ref).length : Nat) : Int) - ((((takesOf g).map fun p => V.str (tx (partB p))).length : Nat) : Int) = (s4.length : Int) := by
        rw [List.length_map, List.length_map, lenT, hl]
        omega
      obtain ⟨pdA, pdB⟩ := paired_split hpd2
      refine ⟨_, rfl, _, rfl, _, rfl, _, rfl, p, _, rfl, SqL.of hp2, fun t1 ht1 => ?_⟩
      rw [ebeg, cut_from (by rw [List.length_map, lenT]; omega), ← List.map_drop]
      have sB : Same H3 (upd H3 t1 (.lst ((as.drop s4.length).map V.ref))) := same_new ht1 _
      have e1 : (upd H3 t1 (.lst ((as.drop s4.length).map V.ref))) t1 = some (.lst ((as.drop s4.length).map V.ref)) := upd_same
      generalize upd H3 t1 (.lst ((as.drop s4.length).map V.ref)) = H4 at sB e1 ⊢
      have wl : wP l ≤ 100000 := by
        have z := wP_app s4 l
        omega
      refine ⟨g, t1, l, rfl, hg, ⟨_, e1, paired_map (fun a y h => (PartR.same h sB).imp fun _ _ => trivial) pdB⟩, wl, by omega, fun H5 x s5 px => ?_⟩
      have hp5 := s5 _ _ (sB _ _ hp2)
      refine ⟨_, rfl, _, rfl, _, rfl, p, _, rfl, SqL.of hp5, fun t2 ht2 => ?_⟩
      first | rw [ebeg, cut_to (by rw [List.length_map, lenT]; omega), ← List.map_take] | rw [cut_to (by rw [List.length_map, lenT]; omega), ← List.map_take]
      have sC : Same H5 (upd H5 t2 (.lst ((as.take s4.length).map V.ref))) := same_new ht2 _
      have e2 : (upd H5 t2 (.lst ((as.take s4.length).map V.ref))) t2 = some (.lst ((as.take s4.length).map V.ref)) := upd_same
      generalize upd H5 t2 (.lst ((as.take s4.length).map V.ref)) = H6 at sC e2 ⊢
      refine ⟨_, rfl, (by show 1 ≤ sizeLine; decide), fun t3 ht3 => ?_⟩
      have sD : Same H6 (upd H6 t3 (.lst [.ref x])) := same_new ht3 _
      refine ⟨t2, t3, _, _, rfl, rfl, sD _ _ e2, upd_same, by rw [List.length_map, List.length_take, sizeLine_eq]; show _ + 1 ≤ _; omega, fun t4 ht4 => ?_⟩
      have sE := sD.trans (same_new ht4 (.lst ((as.take s4.length).map V.ref ++ [.ref x])))
      have sAll := ((s5.trans sC).trans sE)
      have n4 : ∀ tl o, H5 tl = some o → tl ≠ t4 := fun tl o ho z => by
        have q4 := sD _ _ (sC _ _ ho)
        rw [z, ht4] at q4
        cases q4
      refine ⟨s4 ++ [withP g l], t4, _, _, _, _, _, _, rfl, s2.trans (sB.trans sAll), ⟨as.take s4.length ++ [x], by rw [upd_same, List.map_append]; rfl, paired_snoc (paired_map (fun a y h => ?_) pdA) ?_⟩, ?_, hrest, hw', hsl'⟩
      · obtain ⟨tl, h1, h2, _⟩ := h
        exact ⟨tl, sAll _ _ (sB _ _ h1), sAll _ _ (sB _ _ h2), n4 tl _ (s5 _ _ (sB _ _ h2))⟩
      · obtain ⟨tl, h1, h2, _⟩ := px
        exact ⟨tl, sE _ _ (sC _ _ h1), sE _ _ (sC _ _ h2), n4 tl _ h2⟩
      · exact ((s2.trans (sB.trans (s5.trans sC))).trans sD).free ht4
    | op hc =>
      rename_i s4 pa4 pb4 c
      obtain ⟨c1, c2⟩ := op_no (c := c)
      rw [c1]
      refine ⟨_, rfl, iteF ?_⟩
      refine ⟨_, rfl, rfl, ?_⟩
      rw [dec_str, c2]
      refine ⟨_, rfl, iteF ?_⟩
      refine ⟨_, rfl, tx [c], none, rfl, rfl, D.no c hc, _, rfl, iteF ?_⟩
      have e2 : s4 ++ [pa4, pb4] = (s4 ++ [pa4]) ++ [pb4] := by rw [List.append_assoc]; rfl
      rw [e2] at hpd2
      obtain ⟨as1, a1, eas, hpd1, hpr1⟩ := paired_unsnoc hpd2
      subst eas
      obtain ⟨as0, a0, eas, hpd0, hpr0⟩ := paired_unsnoc hpd1
      subst eas
      refine ⟨_, rfl, .inl ⟨rfl, _, SqL.of hp2⟩, p, _, .ref a1, rfl, rfl, hp2, by rw [List.map_append]; exact last_at _ _, ?_⟩
      rw [pop_is]
      have kP : Kp [p] H3 (upd H3 p (.lst ((as0 ++ [a0]).map V.ref))) := Kp.put hp2 rfl (by simp)
      have e5 : (upd H3 p (.lst ((as0 ++ [a0]).map V.ref))) p = some (.lst ((as0 ++ [a0]).map V.ref)) := upd_same
      generalize upd H3 p (.lst ((as0 ++ [a0]).map V.ref)) = H4 at kP e5 ⊢
      refine ⟨_, rfl, .inl ⟨rfl, _, SqL.of e5⟩, p, _, .ref a0, rfl, rfl, e5, by rw [List.map_append]; exact last_at _ _, ?_⟩
      rw [pop_is]
      have kP2 : Kp [p] H4 (upd H4 p (.lst (as0.map V.ref))) := Kp.put e5 rfl (by simp)
      have e6 : (upd H4 p (.lst (as0.map V.ref))) p = some (.lst (as0.map V.ref)) := upd_same
      generalize upd H4 p (.lst (as0.map V.ref)) = H5 at kP2 e6 ⊢
      have kk : Kp [p] H3 H5 := kP.trans kP2
      have s5 : Same H H5 := same_kp s2 kk (by simp [hpn])
      have pr0 : PartR (fun tl => tl ≠ p) H5 a0 pa4 := hpr0.kp kk fun z hz => by simp [hz]
      have pr1 : PartR (fun tl => tl ≠ p) H5 a1 pb4 := hpr1.kp kk fun z hz => by simp [hz]
      have hpd5 := paired_map (fun a y (h : PartR (fun tl => tl ≠ p) H3 a y) => h.kp kk fun z hz => by simp [hz]) hpd0
      have wab : pa4.2.length ≤ 100000 ∧ pb4.2.length ≤ 100000 := by
        have z : wP (s4 ++ [pa4, pb4]) = wP s4 + (pa4.2.length + pb4.2.length) := by rw [wP_app]; simp [wP]
        omega
      refine ⟨_, rfl, .inl ⟨rfl, _, SqL.of e6⟩, _, rfl, _, rfl, _, rfl, c, a0, a1, pa4, pb4, rfl, pr0.imp fun _ _ => trivial, pr1.imp fun _ _ => trivial, wab.1, wab.2, fun H6 x s6 px => ?_⟩
      have lenA0 : as0.length = s4.length := Paired.length hpd0
      refine ⟨p, _, _, rfl, rfl, s6 _ _ e6, by rw [List.length_map, lenA0, sizeLine_eq]; simp only [List.length_append, List.length_cons, List.length_nil] at hsl; omega, ?_⟩
      exact done (s5.trans s6) (s6 _ _ e6) (paired_map (fun a y h => PartR.same h s6) hpd5) (px.imp fun tl htl z => by rw [z, e6] at htl; cases htl) rfl _ _ _ _
  · obtain ⟨s, p, o2, o3, o4, o5, o6, o7, rfl, s1, ⟨as, hp1, hpd⟩, hpn, hrun, hw, hsl⟩ := hPv
    rw [List.length_map, lenS, List.drop_length] at hrun
    cases hrun
    cases hpd with
    | cons pr rest =>
      cases rest
      rename_i a
      obtain ⟨tl, h1, h2, _⟩ := pr
      refine ⟨_, rfl, .inl ⟨p, _, 0, .ref a, rfl, rfl, SqL.of hp1, atI_nat (j := 0) rfl, ?_⟩⟩
      refine .inr (.inl ⟨a, _, 1, .ref tl, rfl, rfl, SqT.of h1, atI_nat (j := 1) rfl, ?_⟩)
      exact q H2 tl s1 h2
end
end SDP
set_option Elab.async false
set_option linter.all false
set_option maxRecDepth 100000
set_option maxHeartbeats 4000000
namespace SDP
open PySem PySem.Spec PyProof.Rows L2 SDX SD TL
open SeamNum (Bytes)
open SeamText (takesOf wordOf GRAIN)
theorem sepC_snoc (c : Bytes) : ∀ (l : List Bytes) (j : Nat), sepC j (l ++ [c]) = sepC j l ++ [(if j + l.length = 0 then [40] else [44]), c]
  | [], j => rfl
  | d :: r, j => by
    show (if j = 0 then [40] else [44]) :: d :: sepC (j + 1) (r ++ [c]) = ((if j = 0 then [40] else [44]) :: d :: sepC (j + 1) r) ++ _
    rw [sepC_snoc c r (j + 1), List.length_cons]
    have e : j + 1 + r.length = j + (r.length + 1) := by omega
    rw [e]
    rfl
def spPieceW : Sp := fun vs H Q _ => ∃ (nm : Bytes) (c g : Addr) (cs gs : List Bytes), vs = [.str (tx nm), .ref c, .ref g] ∧ H c = some (strL cs) ∧ H g = some (strL gs) ∧ cs.length ≤ 5000 ∧ gs.length ≤ 10 ∧
  ∀ H' x, Same H H' → H' x = some (strL ([wPiece, nm] ++ sepC 0 cs ++ [[41], GRAIN] ++ gs)) → Q (.ref x) H'
section
variable {P : Program} {w : World} {K : PySem.W.Frag} {mg : Str → Option Value} {base : Heap}
theorem scPieceW : FnScope ["name", "corners", "grain", "tokens", "index", "corner"] ["name", "corners", "grain"] (defScope sPieceW) := ⟨rfl, rfl, rfl, by decide +kernel, rfl, by decide +kernel, by decide +kernel⟩
theorem ok_pieceW {f : Addr} {fd : FuncData} (G : PrG K w mg) (F : Fn1 K mg "tokens_of_piece" sPieceW ["name", "corners", "grain"] f fd) : FnOk P w K mg base CX0 1 f fd ["name", "corners", "grain"] spPieceW := by
  refine F.F.ok scPieceW (fun vs H Q E h => ?_) (fun cdv A outer s H vs Q E hr h => ?_)
  · obtain ⟨nm, c, g, cs, gs, rfl, _⟩ := h
    rfl
  obtain ⟨nm, c, g, cs, gs, rfl, hc, hg, lc, lg, q⟩ := h
  refine ⟨_, pss_cons (ps_set (i := 3) scPieceW.nd rfl (Or.inl rfl) (pe_lst (pa_cons pe_str (pa_cons (pv 0) pa_nil))))
    (pss_cons (ps_for PassesOwn.never rfl (pi_enum rfl G.enum (pa_cons (pv 1) pa_nil)) (pg_tup rfl (pgs_cons (pg_name (i := 4) scPieceW.nd rfl (Or.inl rfl)) (pgs_cons (pg_name (i := 5) scPieceW.nd rfl (Or.inl rfl)) pgs_nil)))
      (pss_cons (ps_expr (pe_bm PySem.F.plainAttrs_list PySem.F.slot_list_append PySem.F.type_list_append mt_append (pv 3) (pa_cons (pe_ifExp (pt_cmpR op_eq (pv 4) pe_int (by rfl)) pe_str pe_str) pa_nil)))
      (pss_one (ps_expr (pe_bm PySem.F.plainAttrs_list PySem.F.slot_list_append PySem.F.type_list_append mt_append (pv 3) (pa_cons (pv 5) pa_nil))))))
    (pss_one (ps_ret (pe_op op_cat (pe_op op_cat (pv 3) (pe_lst (pa_cons pe_str (pa_cons pe_str pa_nil)))) (pv 2))))), ?_⟩
  have e40 : Str.ofString "(" = tx [40] := by decide +kernel
  have e41 : Str.ofString ")" = tx [41] := by decide +kernel
  have e44 : Str.ofString "," = tx [44] := by decide +kernel
  have epi : Str.ofString "piece" = tx wPiece := by decide +kernel
  have egr : Str.ofString "grain" = tx GRAIN := by decide +kernel
  refine ⟨_, rfl, (by show 2 ≤ sizeLine; decide), fun T hT => ?_⟩
  have s0 : Same H (upd H T (.lst [.str (Str.ofString "piece"), .str (tx nm)])) := same_new hT _
  have e0 : (upd H T (.lst [.str (Str.ofString "piece"), .str (tx nm)])) T = some (strL [wPiece, nm]) := by
    rw [upd_same, epi]
    rfl
  generalize upd H T (.lst [.str (Str.ofString "piece"), .str (tx nm)]) = H1 at s0 e0 ⊢
  refine ⟨_, rfl, c, _, rfl, SqL.of (s0 _ _ hc), ?_⟩
  refine for_it walk_enum (fun i σ H' => ∃ o1 o2, σ = [some (.str (tx nm)), some (.ref c), some (.ref g), some (.ref T), o1, o2] ∧ Same H H' ∧ H' T = some (strL ([wPiece, nm] ++ sepC 0 (cs.take i)))) ⟨none, none, rfl, s0, by rw [List.take_zero]; unfold sepC; rw [List.append_nil]; exact e0⟩
    (fun i σ H' _ ⟨_, _, _, s2, _⟩ => SqL.of (s2 _ _ hc)) (fun i x0 σ H1 H2 hi ⟨o1, o2, es, s2, hT1⟩ hy => ?_) (fun σ H2 ⟨o1, o2, es, s2, hT1⟩ => ?_)
  · subst es
    obtain ⟨Tp, x1, y1, rfl, hTp, rfl, e1, e2⟩ := hy
    injection e1 with e1
    subst e1
    rw [List.length_map] at hi
    have ex : cs[i]? = some cs[i] := List.getElem?_eq_getElem hi
    have e2 : (cs.map fun b => V.str (tx b))[i]? = some y1 := e2
    rw [List.getElem?_map, ex] at e2
    injection e2 with e2
    subst e2
    generalize cs[i] = x at ex
    have s3 : Same H1 (upd H1 Tp (.tup [.int (i : Nat), .str (tx x)])) := same_new hTp _
    refine ⟨Tp, _, rfl, SqT.of upd_same, rfl, _, _, rfl, _, _, rfl, rfl, ?_⟩
    generalize upd H1 Tp (.tup [.int (i : Nat), .str (tx x)]) = H2 at s3 ⊢
    have hT2 := s3 _ _ hT1
    have s3 : Same H H2 := s2.trans s3
    have hlen : ([wPiece, nm] ++ sepC 0 (cs.take i)).length ≤ 100010 := by
      rw [List.length_append, sepC_len, List.length_take]
      show 2 + _ ≤ _
      omega
    refine ⟨_, rfl, .inl ⟨rfl, _, SqL.of hT2⟩, _, rfl, rfl, ?_⟩
    rw [dec_0]
    by_cases hi0 : i = 0
    · rw [decide_eq_true hi0]
      refine ⟨_, rfl, iteT ⟨T, _, _, rfl, rfl, hT2, by rw [List.length_map, sizeLine_eq]; omega, ?_⟩⟩
      rw [e40]
      have e4 : (upd H2 T (.lst (([wPiece, nm] ++ sepC 0 (cs.take i)).map (fun b => V.str (tx b)) ++ [.str (tx [40])]))) T = some (strL ([wPiece, nm] ++ sepC 0 (cs.take i) ++ [[40]])) := by
        rw [upd_same]
        unfold strL
        rw [List.map_append (l₂ := [[40]])]
        rfl
      have k4 : Kp [T] H2 (upd H2 T (.lst (([wPiece, nm] ++ sepC 0 (cs.take i)).map (fun b => V.str (tx b)) ++ [.str (tx [40])]))) := Kp.put hT2 rfl (by simp)
      generalize upd H2 T (.lst (([wPiece, nm] ++ sepC 0 (cs.take i)).map (fun b => V.str (tx b)) ++ [.str (tx [40])])) = H3 at e4 k4 ⊢
      have s4 : Same H H3 := same_kp s3 k4 (by simp [hT])
      refine ⟨_, rfl, .inl ⟨rfl, _, SqL.of e4⟩, _, rfl, T, _, _, rfl, rfl, e4, by rw [List.length_map, List.length_append, sizeLine_eq]; show _ + 1 < _; omega, ?_⟩
      have k5 : Kp [T] H3 (upd H3 T (.lst (([wPiece, nm] ++ sepC 0 (cs.take i) ++ [[40]]).map (fun b => V.str (tx b)) ++ [.str (tx x)]))) := Kp.put e4 rfl (by simp)
      refine ⟨_, _, rfl, same_kp s4 k5 (by simp [hT]), ?_⟩
      rw [upd_same]
      unfold strL
      rw [List.take_add_one, ex, Option.toList_some, sepC_snoc, List.length_take, Nat.min_eq_left (by omega), Nat.zero_add, if_pos hi0, List.map_append (l₁ := [wPiece, nm] ++ sepC 0 (cs.take i)), ← List.append_assoc, List.map_append (l₁ := [wPiece, nm] ++ sepC 0 (cs.take i)), List.append_assoc]
      rfl
    · rw [decide_eq_false hi0]
      refine ⟨_, rfl, iteF ⟨T, _, _, rfl, rfl, hT2, by rw [List.length_map, sizeLine_eq]; omega, ?_⟩⟩
      rw [e44]
      have e4 : (upd H2 T (.lst (([wPiece, nm] ++ sepC 0 (cs.take i)).map (fun b => V.str (tx b)) ++ [.str (tx [44])]))) T = some (strL ([wPiece, nm] ++ sepC 0 (cs.take i) ++ [[44]])) := by
        rw [upd_same]
        unfold strL
        rw [List.map_append (l₂ := [[44]])]
        rfl
      have k4 : Kp [T] H2 (upd H2 T (.lst (([wPiece, nm] ++ sepC 0 (cs.take i)).map (fun b => V.str (tx b)) ++ [.str (tx [44])]))) := Kp.put hT2 rfl (by simp)
      generalize upd H2 T (.lst (([wPiece, nm] ++ sepC 0 (cs.take i)).map (fun b => V.str (tx b)) ++ [.str (tx [44])])) = H3 at e4 k4 ⊢
      have s4 : Same H H3 := same_kp s3 k4 (by simp [hT])
      refine ⟨_, rfl, .inl ⟨rfl, _, SqL.of e4⟩, _, rfl, T, _, _, rfl, rfl, e4, by rw [List.length_map, List.length_append, sizeLine_eq]; show _ + 1 < _; omega, ?_⟩
      have k5 : Kp [T] H3 (upd H3 T (.lst (([wPiece, nm] ++ sepC 0 (cs.take i) ++ [[44]]).map (fun b => V.str (tx b)) ++ [.str (tx x)]))) := Kp.put e4 rfl (by simp)
      refine ⟨_, _, rfl, same_kp s4 k5 (by simp [hT]), ?_⟩
      rw [upd_same]
      unfold strL
      rw [List.take_add_one, ex, Option.toList_some, sepC_snoc, List.length_take, Nat.min_eq_left (by omega), Nat.zero_add, if_neg hi0, List.map_append (l₁ := [wPiece, nm] ++ sepC 0 (cs.take i)), ← List.append_assoc, List.map_append (l₁ := [wPiece, nm] ++ sepC 0 (cs.take i)), List.append_assoc]
      rfl
  · subst es
    rw [List.length_map, List.take_length] at hT1
    refine ⟨_, rfl, (by show 2 ≤ sizeLine; decide), fun p1 hp1 => ?_⟩
    rw [e41, egr]
    have s3 : Same H2 (upd H2 p1 (.lst [.str (tx [41]), .str (tx GRAIN)])) := same_new hp1 _
    refine ⟨T, p1, _, _, rfl, rfl, s3 _ _ hT1, upd_same, by rw [List.length_map, List.length_append, sepC_len, sizeLine_eq]; show 2 + _ + 2 ≤ _; omega, fun p2 hp2 => ?_⟩
    generalize upd H2 p1 (.lst [.str (tx [41]), .str (tx GRAIN)]) = H3 at s3 hp2 ⊢
    have s4 := same_new (H := H3) hp2 (.lst ((([wPiece, nm] ++ sepC 0 cs).map fun b => V.str (tx b)) ++ [.str (tx [41]), .str (tx GRAIN)]))
    refine ⟨_, rfl, p2, g, _, _, rfl, rfl, upd_same, s4 _ _ (s3 _ _ (s2 _ _ hg)), by rw [List.length_append, List.length_map, List.length_map, List.length_append, sepC_len, sizeLine_eq]; show 2 + _ + 2 + _ ≤ _; omega, fun p3 hp3 => ?_⟩
    refine q _ p3 (((s2.trans s3).trans s4).trans (same_new hp3 _)) ?_
    rw [upd_same]
    unfold strL
    rw [List.map_append (l₂ := gs), List.map_append (l₂ := [[41], GRAIN])]
    rfl
def spStW : Sp := fun vs H Q _ => ∃ (v : V) (s : SeamText.St), vs = [v] ∧ StR (fun _ => True) H v s ∧ stFine s ∧ stW s ≤ 5000 ∧ ∀ H' x, Same H H' → H' x = some (strL (stB s)) → Q (.ref x) H'
theorem scStW : FnScope ["statement", "word"] ["statement"] (defScope sStW) := ⟨rfl, rfl, rfl, by decide +kernel, rfl, by decide +kernel, by decide +kernel⟩
theorem ok_stW {f fA fS fW fT fP pa : Addr} {fd dA dS dW dT dP : FuncData} {es : Array DictEntry} {n : Nat} (G : PrG K w mg) (D : PartsK K w mg pa es n) (FA : Fn1 K mg "at_least" sAtL ["firmness", "part"] fA dA) (FS : Fn1 K mg "with_sign" sSignW ["sign", "left", "right"] fS dS) (FW : Fn1 K mg "with_parts" sWith ["what", "parts"] fW dW)
    (FT : Fn1 K mg "tokens_of_steps" sStepsW ["steps"] fT dT) (FP : Fn1 K mg "tokens_of_piece" sPieceW ["name", "corners", "grain"] fP dP) (F : Fn1 K mg "tokens_of_statement" sStW ["statement"] f fd) : FnOk P w K mg base CX0 4 f fd ["statement"] spStW := by
  refine F.F.ok scStW (fun vs H Q E h => ?_) (fun cdv A outer s H vs Q E hr h => ?_)
  · obtain ⟨v, s, rfl, _⟩ := h
    rfl
  obtain ⟨v, st, rfl, hR, hF, hw, q⟩ := h
  have hr1 : Room 1 _ := hr.mono (by decide)
  refine ⟨_, pss_cons (ps_set (i := 1) scStW.nd rfl (Or.inl rfl) (pe_ix ix_seq (pv 0) pe_int (fun _ _ => rfl)))
    (pss_cons (ps_if (pt_cmpR op_eq (pv 1) pe_str (by rfl)) (pss_one (ps_ret (pe_call (ok_pieceW G FP) hr1 rfl FP.m FP.F.kp FP.b .nil pass0 (pa_cons (pe_ix ix_seq (pv 0) pe_int (fun _ _ => rfl)) (pa_cons (pe_ix ix_seq (pv 0) pe_int (fun _ _ => rfl)) (pa_cons (pe_ix ix_seq (pv 0) pe_int (fun _ _ => rfl)) pa_nil)))))) pss_nil)
    (pss_cons (ps_if (pt_cmpR op_eq (pv 1) pe_str (by rfl)) (pss_one (ps_ret (pe_op op_cat (pe_op op_cat (pe_op op_cat (pe_lst (pa_cons pe_str pa_nil)) (pe_ix ix_seq (pv 0) pe_int (fun _ _ => rfl))) (pe_lst (pa_cons pe_str pa_nil))) (pe_ix ix_seq (pv 0) pe_int (fun _ _ => rfl))))) pss_nil)
    (pss_one (ps_ret (pe_op op_cat (pe_lst (pa_cons (pv 1) (pa_cons (pe_ix ix_seq (pv 0) pe_int (fun _ _ => rfl)) (pa_cons pe_str pa_nil)))) (pe_call (ok_stepsW G D FA FS FW FT) hr rfl FT.m FT.F.kp FT.b .nil pass0 (pa_cons (pe_ix ix_seq (pv 0) pe_int (fun _ _ => rfl)) pa_nil))))))), ?_⟩
  have epi : Str.ofString "piece" = tx wPiece := by decide +kernel
  have ese : Str.ofString "seam" = tx wSeam := by decide +kernel
  have e44 : Str.ofString "," = tx [44] := by decide +kernel
  have e61 : Str.ofString "=" = tx [61] := by decide +kernel
  -- let and point
  have mean : ∀ (pk : Bool) (wd nm : Bytes) (e : SeamText.E) (a sl : Addr), H a = some (.tup [.str (tx wd), .str (tx nm), .ref sl]) → StepL H sl (stK pk e) → eFine e → (stepsOf e).length ≤ 5000 → (∀ H' x, Same H H' → H' x = some (strL ([wd, nm, [61]] ++ ptok e)) → Q (.ref x) H') →
      tRet (tOp rCat (tLst (tCons (tVar 1) (tCons (tOp (rIx K) (tVar 0) (tC (V.int 1))) (tCons (tC (V.str (Str.ofString "="))) tNil)))) (tCall spStepsW [] E0 (tCons (tOp (rIx K) (tVar 0) (tC (V.int 2))) tNil))) { nx := fun _ H' => Q .non H', rt := Q } [some (.ref a), some (.str (tx wd))] H := by
    intro pk wd nm e a sl ha hs he hl qq
    refine ⟨_, rfl, _, rfl, .inr (.inl ⟨a, _, 1, .str (tx nm), rfl, rfl, SqT.of ha, atI_nat (j := 1) rfl, ?_⟩)⟩
    rw [e61]
    refine ⟨(by show 3 ≤ sizeLine; decide), fun p1 hp1 => ?_⟩
    have s1 : Same H (upd H p1 (.lst [.str (tx wd), .str (tx nm), .str (tx [61])])) := same_new hp1 _
    have e1 : (upd H p1 (.lst [.str (tx wd), .str (tx nm), .str (tx [61])])) p1 = some (.lst [.str (tx wd), .str (tx nm), .str (tx [61])]) := upd_same
    generalize upd H p1 (.lst [.str (tx wd), .str (tx nm), .str (tx [61])]) = H1 at s1 e1 ⊢
    refine ⟨_, rfl, .inr (.inl ⟨a, _, 2, .ref sl, rfl, rfl, SqT.of (s1 _ _ ha), atI_nat (j := 2) rfl, sl, stK pk e, partOf e, rfl, hs.kp (Kp.same (M := []) s1) (by simp), run_of pk e [] he, by rw [stK_len]; exact hl, fun H2 tl s2 e2 => ?_⟩)⟩
    have hlen := toks_len he
    refine ⟨p1, tl, _, _, rfl, rfl, s2 _ _ e1, e2, by rw [List.length_map, sizeLine_eq]; show 3 + ((SeamText.toks 0 e).map SeamText.tokText).length ≤ _; rw [List.length_map]; omega, fun p2 hp2 => ?_⟩
    refine qq _ p2 ((s1.trans s2).trans (same_new hp2 _)) ?_
    rw [upd_same]
    rfl
  cases st with
  | let_ nm e =>
    obtain ⟨a, sl, rfl, ha, _, hs⟩ := hR
    refine ⟨_, rfl, .inr (.inl ⟨a, _, 0, .str (tx wLet), rfl, rfl, SqT.of ha, atI_nat (j := 0) rfl, ?_⟩)⟩
    refine ⟨_, rfl, rfl, ?_⟩
    rw [epi, dec_str, decide_eq_false (by decide +kernel)]
    refine ⟨_, rfl, iteF ?_⟩
    refine ⟨_, rfl, rfl, ?_⟩
    rw [ese, dec_str, decide_eq_false (by decide +kernel)]
    refine ⟨_, rfl, iteF ?_⟩
    have hw : (stepsOf e).length + 1 ≤ 5000 := hw
    exact mean false wLet nm e a sl ha hs hF.2 (by omega) q
  | point nm e =>
    obtain ⟨a, sl, rfl, ha, _, hs⟩ := hR
    refine ⟨_, rfl, .inr (.inl ⟨a, _, 0, .str (tx wPoint), rfl, rfl, SqT.of ha, atI_nat (j := 0) rfl, ?_⟩)⟩
    refine ⟨_, rfl, rfl, ?_⟩
    rw [epi, dec_str, decide_eq_false (by decide +kernel)]
    refine ⟨_, rfl, iteF ?_⟩
    refine ⟨_, rfl, rfl, ?_⟩
    rw [ese, dec_str, decide_eq_false (by decide +kernel)]
    refine ⟨_, rfl, iteF ?_⟩
    have hw : (stepsOf e).length + 1 ≤ 5000 := hw
    exact mean true wPoint nm e a sl ha hs hF.2 (by omega) q
  | piece nm cs g k =>
    obtain ⟨a, c, gr, rfl, ha, _, _, hc, hg⟩ := hR
    refine ⟨_, rfl, .inr (.inl ⟨a, _, 0, .str (tx wPiece), rfl, rfl, SqT.of ha, atI_nat (j := 0) rfl, ?_⟩)⟩
    refine ⟨_, rfl, rfl, ?_⟩
    rw [epi, dec_str, decide_eq_true (show wPiece = wPiece from rfl)]
    refine ⟨_, rfl, iteT ?_⟩
    have hw : cs.length + 1 ≤ 5000 := hw
    refine ⟨_, rfl, .inr (.inl ⟨a, _, 1, .str (tx nm), rfl, rfl, SqT.of ha, atI_nat (j := 1) rfl, ?_⟩)⟩
    refine ⟨_, rfl, .inr (.inl ⟨a, _, 2, .ref c, rfl, rfl, SqT.of ha, atI_nat (j := 2) rfl, ?_⟩)⟩
    refine ⟨_, rfl, .inr (.inl ⟨a, _, 3, .ref gr, rfl, rfl, SqT.of ha, atI_nat (j := 3) rfl, ?_⟩)⟩
    exact ⟨nm, c, gr, cs, [g, k], rfl, hc, hg, by omega, by show 2 ≤ 10; decide, q⟩
  | seam a1 p1 q1 b1 r1 s1 =>
    obtain ⟨a, f1, l1, rfl, ha, _, _, hf, hl⟩ := hR
    refine ⟨_, rfl, .inr (.inl ⟨a, _, 0, .str (tx wSeam), rfl, rfl, SqT.of ha, atI_nat (j := 0) rfl, ?_⟩)⟩
    refine ⟨_, rfl, rfl, ?_⟩
    rw [epi, dec_str, decide_eq_false (by decide +kernel)]
    refine ⟨_, rfl, iteF ?_⟩
    refine ⟨_, rfl, rfl, ?_⟩
    rw [ese, dec_str, decide_eq_true (show wSeam = wSeam from rfl)]
    refine ⟨_, rfl, iteT ?_⟩
    rw [e44]
    refine ⟨(by show 1 ≤ sizeLine; decide), fun p1' hp1 => ?_⟩
    have sA : Same H (upd H p1' (.lst [.str (tx wSeam)])) := same_new hp1 _
    have eA : (upd H p1' (.lst [.str (tx wSeam)])) p1' = some (.lst [.str (tx wSeam)]) := upd_same
    generalize upd H p1' (.lst [.str (tx wSeam)]) = H1 at sA eA ⊢
    refine ⟨_, rfl, .inr (.inl ⟨a, _, 1, .ref f1, rfl, rfl, SqT.of (sA _ _ ha), atI_nat (j := 1) rfl, p1', f1, _, _, rfl, rfl, eA, sA _ _ hf, by show 1 + 3 ≤ sizeLine; decide, fun p2 hp2 => ?_⟩)⟩
    have sB := same_new (H := H1) hp2 (.lst ([.str (tx wSeam)] ++ [a1, p1, q1].map fun b => V.str (tx b)))
    have eB : (upd H1 p2 (.lst ([.str (tx wSeam)] ++ [a1, p1, q1].map fun b => V.str (tx b)))) p2 = some (.lst ([.str (tx wSeam)] ++ [a1, p1, q1].map fun b => V.str (tx b))) := upd_same
    generalize upd H1 p2 (.lst ([.str (tx wSeam)] ++ [a1, p1, q1].map fun b => V.str (tx b))) = H2 at sB eB ⊢
    refine ⟨(by show 1 ≤ sizeLine; decide), fun p3 hp3 => ?_⟩
    have sC : Same H2 (upd H2 p3 (.lst [.str (tx [44])])) := same_new hp3 _
    refine ⟨p2, p3, _, _, rfl, rfl, sC _ _ eB, upd_same, by show 4 + 1 ≤ sizeLine; decide, fun p4 hp4 => ?_⟩
    generalize upd H2 p3 (.lst [.str (tx [44])]) = H3 at sC hp4 ⊢
    have sD := same_new (H := H3) hp4 (.lst (([.str (tx wSeam)] ++ [a1, p1, q1].map fun b => V.str (tx b)) ++ [.str (tx [44])]))
    have eD : (upd H3 p4 (.lst (([.str (tx wSeam)] ++ [a1, p1, q1].map fun b => V.str (tx b)) ++ [.str (tx [44])]))) p4 = some (.lst (([.str (tx wSeam)] ++ [a1, p1, q1].map fun b => V.str (tx b)) ++ [.str (tx [44])])) := upd_same
    generalize upd H3 p4 (.lst (([.str (tx wSeam)] ++ [a1, p1, q1].map fun b => V.str (tx b)) ++ [.str (tx [44])])) = H4 at sD eD ⊢
    have sAll := ((sA.trans sB).trans sC).trans sD
    refine ⟨_, rfl, .inr (.inl ⟨a, _, 2, .ref l1, rfl, rfl, SqT.of (sAll _ _ ha), atI_nat (j := 2) rfl, p4, l1, _, _, rfl, rfl, eD, sAll _ _ hl, by show 5 + 3 ≤ sizeLine; decide, fun p5 hp5 => ?_⟩)⟩
    refine q _ p5 (sAll.trans (same_new hp5 _)) ?_
    rw [upd_same]
    rfl
end
end SDP
set_option Elab.async false
set_option linter.all false
set_option maxRecDepth 100000
set_option maxHeartbeats 4000000
namespace SDP
open PySem PySem.Spec PyProof.Rows L2 SDX SD TL
open SeamNum (Bytes)
theorem joinB_snoc (x y : Bytes) : ∀ l : List Bytes, joinB (l ++ [x, y]) = joinB (l ++ [x]) ++ ((if apartB x y = true then [32] else []) ++ y)
  | [] => rfl
  | a :: r => by
    obtain ⟨h, t, e⟩ : ∃ h t, r ++ [x] = h :: t := by
      cases r with
      | nil => exact ⟨x, [], rfl⟩
      | cons b r => exact ⟨b, r ++ [x], rfl⟩
    have e2 : r ++ [x, y] = h :: (t ++ [y]) := by
      have z : r ++ [x, y] = (r ++ [x]) ++ [y] := by rw [List.append_assoc]; rfl
      rw [z, e]
      rfl
    have ih := joinB_snoc x y r
    rw [e, e2] at ih
    show joinB (a :: (r ++ [x, y])) = joinB (a :: (r ++ [x])) ++ _
    rw [e, e2]
    show a ++ ((if apartB a h = true then [32] else []) ++ joinB (h :: (t ++ [y]))) = (a ++ ((if apartB a h = true then [32] else []) ++ joinB (h :: t))) ++ _
    rw [ih, List.append_assoc, List.append_assoc]
theorem join_flat (l : List Bytes) : Txt.join (Str.ofString "") (l.map tx) = tx l.flatten := by
  rw [join_eq]
  refine ext_tl ?_
  rw [tl_join]
  have ee : tl (Str.ofString "") = [] := by decide +kernel
  rw [ee, List.map_map]
  have go : ∀ l : List Bytes, joinL [] (l.map (tl ∘ tx)) = l.flatten.map UInt8.toNat := by
    intro l
    induction l with
    | nil => rfl
    | cons c r ih =>
      cases r with
      | nil =>
        show c.map UInt8.toNat = (c ++ []).map UInt8.toNat
        rw [List.append_nil]
      | cons d r =>
        show c.map UInt8.toNat ++ ([] ++ joinL [] ((d :: r).map (tl ∘ tx))) = _
        rw [ih, List.nil_append, List.flatten_cons (l := c), List.map_append]
  exact go l
theorem sum_len (l : List Bytes) : ((l.map tx).map (·.length)).sum = l.flatten.length := by
  induction l with
  | nil => rfl
  | cons c r ih =>
    rw [List.map_cons, List.map_cons, List.sum_cons, ih, tx_len, List.flatten_cons, List.length_append]
theorem if_pos_of {c : Prop} [Decidable c] {X Y : Prop} (h : c) (x : X) : (if decide c = true then X else Y) := by
  rw [decide_eq_true h]
  exact iteT x
theorem if_neg_of {c : Prop} [Decidable c] {X Y : Prop} (h : ¬ c) (y : Y) : (if decide c = true then X else Y) := by
  rw [decide_eq_false h]
  exact iteF y
def spApart : Sp := fun vs H Q _ => ∃ (x y : Bytes), vs = [.str (tx x), .str (tx y)] ∧ ∀ H', Same H H' → Q (.bl (apartB x y)) H'
section
variable {P : Program} {w : World} {K : PySem.W.Frag} {mg : Str → Option Value} {base : Heap}
theorem scApart : FnScope ["left", "right"] ["left", "right"] (defScope sApart) := ⟨rfl, rfl, rfl, by decide +kernel, rfl, by decide +kernel, by decide +kernel⟩
theorem scTextW : FnScope ["tokens", "signs", "index", "token"] ["tokens"] (defScope sTextW) := ⟨rfl, rfl, rfl, by decide +kernel, rfl, by decide +kernel, by decide +kernel⟩
theorem ok_apart {f : Addr} {fd : FuncData} (G : PrG K w mg) (F : Fn1 K mg "stand_apart" sApart ["left", "right"] f fd) : FnOk P w K mg base CX0 1 f fd ["left", "right"] spApart := by
  refine F.F.ok scApart (fun vs H Q E h => ?_) (fun cdv A outer s H vs Q E hr h => ?_)
  · obtain ⟨x, y, rfl, _⟩ := h
    rfl
  obtain ⟨x, y, rfl, q⟩ := h
  obtain ⟨aSW, gSW, sSW⟩ := G.SW
  obtain ⟨aPW, gPW, sPW⟩ := G.PW
  refine ⟨_, pss_cons (ps_if (PW.pt (pw_or (pt_cmpR op_eq (pv 0) pe_str (by rfl)) (pw_or1 (pt_cmpR op_in_seq (pv 1) (pe_tup (pa_cons pe_str (pa_cons pe_str (pa_cons pe_str pa_nil)))) (by rfl))))) (pss_one (ps_ret pe_bl)) pss_nil)
    (pss_one (ps_ret (pe_not (pe_and (pe_cmpR op_eq (pv 1) pe_str (by rfl)) (pe_one (pe_or (pe_cmpR op_in_seq (pv 0) (pe_gr rfl gSW) (by rfl)) (pe_one (pe_cmpR op_in_seq (pv 0) (pe_gr rfl gPW) (by rfl))))))))), ?_⟩
  have e40 : Str.ofString "(" = tx [40] := by decide +kernel
  have e41 : Str.ofString ")" = tx [41] := by decide +kernel
  have e44 : Str.ofString "," = tx [44] := by decide +kernel
  have e59 : Str.ofString ";" = tx [59] := by decide +kernel
  rw [e40, e41, e44, e59]
  -- the second row
  have last : ∀ H1, Same H H1 → apartB x y = (!(decide (y = [40]) && (SUMB.contains x || PLACEB.contains x))) →
      tRet (tNotV (tAndV (tOp rEq (tVar 1) (tC (V.str (tx [40])))) (tOrV (tOp (rIn K false) (tVar 0) (tC (.ref aSW))) (tOp (rIn K false) (tVar 0) (tC (.ref aPW)))))) { nx := fun _ H' => Q .non H', rt := Q } [some (.str (tx x)), some (.str (tx y))] H1 := by
    intro H1 s1 ea
    have qq := q H1 s1
    rw [ea] at qq
    refine ⟨_, rfl, rfl, ?_⟩
    rw [dec_str]
    by_cases hy : y = [40]
    · rw [decide_eq_true hy] at qq ⊢
      refine ⟨_, rfl, iteT ?_⟩
      refine ⟨_, rfl, _, _, rfl, .inr (sSW _), rfl, flat_tx _, ?_⟩
      rw [if_neg Bool.false_ne_true, inV_tx]
      cases hs : SUMB.contains x with
      | true =>
        rw [hs] at qq
        exact ⟨_, rfl, iteT ⟨_, rfl, qq⟩⟩
      | false =>
        rw [hs] at qq
        refine ⟨_, rfl, iteF ?_⟩
        refine ⟨_, rfl, _, _, rfl, .inr (sPW _), rfl, flat_tx _, ?_⟩
        rw [if_neg Bool.false_ne_true, inV_tx]
        exact ⟨_, rfl, qq⟩
    · rw [decide_eq_false hy] at qq ⊢
      exact ⟨_, rfl, iteF ⟨_, rfl, qq⟩⟩
  refine ⟨_, rfl, rfl, ?_⟩
  rw [dec_str]
  by_cases hx : x = [40]
  · rw [decide_eq_true hx]
    have ea : apartB x y = false := if_pos (.inl hx)
    have qq := q H (Same.refl H)
    rw [ea] at qq
    exact ⟨_, rfl, iteT (iteT qq)⟩
  · rw [decide_eq_false hx]
    refine ⟨_, rfl, iteF ?_⟩
    refine ⟨_, rfl, (by show 3 ≤ sizeLine; decide), fun p0 hp0 => ?_⟩
    have s0 : Same H (upd H p0 (.tup [.str (tx [44]), .str (tx [41]), .str (tx [59])])) := same_new hp0 _
    refine ⟨p0, _, rfl, .inr (SqT.of upd_same), rfl, rfl, ?_⟩
    have ein : inV (V.str (tx y)) [V.str (tx [44]), V.str (tx [41]), V.str (tx [59])] = ([[44], [41], [59]] : List Bytes).contains y := inV_tx y [[44], [41], [59]]
    generalize upd H p0 (.tup [.str (tx [44]), .str (tx [41]), .str (tx [59])]) = H0 at s0 ⊢
    rw [if_neg Bool.false_ne_true, ein]
    cases hc : ([[44], [41], [59]] : List Bytes).contains y with
    | true =>
      have ea : apartB x y = false := if_pos (.inr hc)
      have qq := q H0 s0
      rw [ea] at qq
      exact ⟨_, rfl, iteT qq⟩
    | false =>
      refine ⟨_, rfl, iteF ?_⟩
      exact last H0 s0 (if_neg (by rintro (z | z); exact hx z; rw [hc] at z; cases z))
def spTextW : Sp := fun vs H Q _ => ∃ (p : Addr) (ts : List Bytes), vs = [.ref p] ∧ H p = some (strL ts) ∧ ts.length ≤ 100000 ∧ (∀ b ∈ ts, b.length ≤ 40) ∧ ∀ H', Same H H' → Q (.str (tx (joinB ts))) H'
theorem ok_textW {f fA : Addr} {fd dA : FuncData} (G : PrG K w mg) (FA : Fn1 K mg "stand_apart" sApart ["left", "right"] fA dA) (F : Fn1 K mg "text_of_tokens" sTextW ["tokens"] f fd) : FnOk P w K mg base CX0 2 f fd ["tokens"] spTextW := by
  refine F.F.ok scTextW (fun vs H Q E h => ?_) (fun cdv A outer s H vs Q E hr h => ?_)
  · obtain ⟨p, ts, rfl, _⟩ := h
    rfl
  obtain ⟨p, ts, rfl, hp, hl, h40, q⟩ := h
  refine ⟨_, pss_cons (ps_set (i := 1) scTextW.nd rfl (Or.inl rfl) (pe_lst pa_nil))
    (pss_cons (ps_for PassesOwn.never rfl (pi_enum rfl G.enum (pa_cons (pv 0) pa_nil)) (pg_tup rfl (pgs_cons (pg_name (i := 2) scTextW.nd rfl (Or.inl rfl)) (pgs_cons (pg_name (i := 3) scTextW.nd rfl (Or.inl rfl)) pgs_nil)))
      (pss_cons (ps_if (PW.pt (pw_and (pt_cmpR op_gt (pv 2) pe_int (nomark _)) (pw_and1 (pt_val (pe_call (ok_apart G FA) hr rfl FA.m FA.F.kp FA.b .nil pass0 (pa_cons (pe_ix ix_seq (pv 0) (pe_op op_sub (pv 2) pe_int) (fun _ _ => rfl)) (pa_cons (pv 3) pa_nil)))))))
        (pss_one (ps_expr (pe_bm PySem.F.plainAttrs_list PySem.F.slot_list_append PySem.F.type_list_append mt_append (pv 1) (pa_cons pe_str pa_nil)))) pss_nil)
      (pss_one (ps_expr (pe_bm PySem.F.plainAttrs_list PySem.F.slot_list_append PySem.F.type_list_append mt_append (pv 1) (pa_cons (pv 3) pa_nil))))))
    (pss_one (ps_ret (pe_bm PySem.F.plainAttrs_str PySem.F.slot_str_join PySem.F.type_str_join mt_join pe_str (pa_cons (pv 1) pa_nil))))), ?_⟩
  have e32 : Str.ofString " " = tx [32] := by decide +kernel
  rw [e32]
  refine ⟨(by show 0 ≤ sizeLine; decide), fun S hS => ?_⟩
  have s0 : Same H (upd H S (.lst [])) := same_new hS _
  refine ⟨_, rfl, p, _, rfl, SqL.of (s0 _ _ hp), ?_⟩
  refine for_it walk_enum (fun i σ H' => ∃ (ps : List Bytes) (o1 o2 : Option V), σ = [some (.ref p), some (.ref S), o1, o2] ∧ Same H H' ∧ H' S = some (strL ps) ∧ ps.flatten = joinB (ts.take i) ∧ ps.length ≤ 2 * i)
    ⟨[], none, none, rfl, s0, upd_same, by rw [List.take_zero]; rfl, Nat.zero_le _⟩ (fun i σ H' _ ⟨_, _, _, _, s2, _⟩ => SqL.of (s2 _ _ hp)) (fun i x0 σ H1 H2 hi ⟨ps, o1, o2, es, s1, hS1, hfl, hpl⟩ hy => ?_) (fun σ H2 ⟨ps, o1, o2, es, s1, hS1, hfl, hpl⟩ => ?_)
  · subst es
    obtain ⟨Tp, x1, y1, rfl, hTp, rfl, e1, e2⟩ := hy
    injection e1 with e1
    subst e1
    rw [List.length_map] at hi
    have ex : ts[i]? = some ts[i] := List.getElem?_eq_getElem hi
    have e2 : (ts.map fun b => V.str (tx b))[i]? = some y1 := e2
    rw [List.getElem?_map, ex] at e2
    injection e2 with e2
    subst e2
    have etk : ts.take (i + 1) = ts.take i ++ [ts[i]] := by
      rw [List.take_add_one, ex]
      rfl
    generalize ts[i] = y at ex etk
    have s3 : Same H1 (upd H1 Tp (.tup [.int (i : Nat), .str (tx y)])) := same_new hTp _
    refine ⟨Tp, _, rfl, SqT.of upd_same, rfl, _, _, rfl, _, _, rfl, rfl, ?_⟩
    generalize upd H1 Tp (.tup [.int (i : Nat), .str (tx y)]) = H2 at s3 ⊢
    have hS2 := s3 _ _ hS1
    have s3 : Same H H2 := s1.trans s3
    -- the token itself
    have put : ∀ (H3 : Hp) (ps3 : List Bytes) (D : Ends), Same H H3 → H3 S = some (strL ps3) → ps3.length ≤ 2 * i + 1 → ps3.flatten ++ y = joinB (ts.take (i + 1)) →
        (∀ σ H', (∃ (ps : List Bytes) (o1 o2 : Option V), σ = [some (.ref p), some (.ref S), o1, o2] ∧ Same H H' ∧ H' S = some (strL ps) ∧ ps.flatten = joinB (ts.take (i + 1)) ∧ ps.length ≤ 2 * (i + 1)) → D.nx σ H') →
        tDrop (tBM K "list" rAppend (tVar 1) (tCons (tVar 3) tNil)) D [some (.ref p), some (.ref S), some (.int (i : Nat)), some (.str (tx y))] H3 := by
      intro H3 ps3 D sm h3 hl3 hf hD
      refine ⟨_, rfl, .inl ⟨rfl, _, SqL.of h3⟩, _, rfl, S, _, _, rfl, rfl, h3, by rw [List.length_map, sizeLine_eq]; omega, ?_⟩
      refine hD _ _ ⟨ps3 ++ [y], _, _, rfl, same_kp sm (Kp.put h3 rfl (by simp) : Kp [S] H3 _) (by simp [hS]), ?_, ?_, ?_⟩
      · rw [upd_same]
        unfold strL
        rw [List.map_append]
        rfl
      · rw [List.flatten_append, ← hf]
        simp
      · rw [List.length_append, List.length_singleton]
        omega
    refine ⟨_, rfl, _, _, rfl, rfl, _, rfl, ?_⟩
    by_cases h0 : i = 0
    · refine if_neg_of (by omega) (iteF ?_)
      refine put H2 ps _ s3 hS2 (by omega) ?_ (fun σ H' z => z)
      subst h0
      rw [hfl, etk, List.take_zero]
      rfl
    · refine if_pos_of (by omega) ?_
      obtain ⟨j, rfl⟩ : ∃ j, i = j + 1 := ⟨i - 1, by omega⟩
      have hj : j < ts.length := by omega
      have ej : ts[j]? = some ts[j] := List.getElem?_eq_getElem hj
      have etj : ts.take (j + 1) = ts.take j ++ [ts[j]] := by
        rw [List.take_add_one, ej]
        rfl
      generalize ts[j] = x at ej etj
      have eij : (((j + 1 : Nat) : Int) - 1) = (j : Int) := by omega
      refine ⟨_, rfl, _, rfl, _, _, rfl, rfl, .inl ⟨p, _, _, .str (tx x), rfl, rfl, SqL.of (s3 _ _ hp), by rw [eij]; exact atI_nat (j := j) (by rw [List.getElem?_map, ej]; rfl), _, rfl, x, y, rfl, fun H3 sm => ?_⟩⟩
      have hS3 := sm _ _ hS2
      have s4 : Same H H3 := s3.trans sm
      have ejn : joinB (ts.take (j + 1 + 1)) = joinB (ts.take (j + 1)) ++ ((if apartB x y = true then [32] else []) ++ y) := by
        rw [etk, etj, List.append_assoc]
        exact joinB_snoc x y (ts.take j)
      refine ⟨_, rfl, ?_⟩
      cases ha : apartB x y with
      | true =>
        rw [ha] at ejn
        refine iteT ?_
        refine ⟨_, rfl, .inl ⟨rfl, _, SqL.of hS3⟩, S, _, _, rfl, rfl, hS3, by rw [List.length_map, sizeLine_eq]; omega, ?_⟩
        refine put _ (ps ++ [[32]]) _ (same_kp s4 (Kp.put hS3 rfl (by simp) : Kp [S] H3 _) (by simp [hS])) ?_ (by rw [List.length_append, List.length_singleton]; omega) ?_ (fun σ H' z => z)
        · rw [upd_same]
          unfold strL
          rw [List.map_append]
          rfl
        · rw [ejn, ← hfl, List.flatten_append]
          simp
      | false =>
        rw [ha] at ejn
        refine iteF ?_
        refine put H3 ps _ s4 hS3 (by omega) ?_ (fun σ H' z => z)
        rw [ejn, hfl]
        rfl
  · subst es
    rw [List.length_map, List.take_length] at hfl
    rw [List.length_map] at hpl
    have hj := joinB_len ts h40
    have e0 : (Str.ofString "").length = 0 := by decide +kernel
    refine ⟨rfl, _, rfl, _, S, ps.map tx, rfl, rfl, .inl ?_, ?_, ?_⟩
    · rw [List.map_map]
      exact SqL.of hS1
    · rw [sum_len, hfl, List.length_map, e0]
      omega
    · rw [join_flat, hfl]
      exact q H2 s1
end
end SDP
set_option Elab.async false
set_option linter.all false
set_option maxRecDepth 100000
set_option maxHeartbeats 4000000
/-! # Errors together, check_lengths -/
namespace SDP
open PySem PySem.Spec PyProof.Rows L2 SDX SD TL
open SeamNum (Bytes)
theorem paired_fst {α β : Type} {R : α → β → Prop} : ∀ {l : List α} {m : List β} (h : Paired R l m) (i : Nat) (x : α), l[i]? = some x → ∃ y, m[i]? = some y ∧ R x y
  | _, _, .nil, i, x, e => by simp at e
  | _, _, .cons r p, 0, x, e => by
    simp only [List.getElem?_cons_zero, Option.some.injEq] at e
    subst e
    exact ⟨_, rfl, r⟩
  | _, _, .cons r p, i + 1, x, e => by
    rw [List.getElem?_cons_succ] at e ⊢
    exact paired_fst p i x e
section
variable {P : Program} {w : World} {K : PySem.W.Frag} {mg : Str → Option Value} {base : Heap}
/-- Refusal, TooLong, as classes -/
structure RefAd where
  cRef : Addr
  fRef : Addr
  dRef : FuncData
  mc : Value
  cT : Addr
  fT : Addr
  dT : FuncData
structure RefC (K : PySem.W.Frag) (mg : Str → Option Value) (R : RefAd) : Prop where
  ref : ErrC K mg "Refusal" R.cRef R.fRef
  FRef : L2.Fun K "__init__" "Refusal.__init__" sRefI R.fRef R.dRef
  bRef : L2.Binds K R.dRef ["self", "number", "signed"] []
  cr : ClX.CRead K R.cRef R.mc
  cv : PySem.W.findCls K (.ref R.cRef) R.mc "__init__" = some (.val (.ref R.fRef))
  mE : mg "Exception" = none
  vE : PySem.W.findCls K (.type "Exception") (.type "type") "__init__" = some (.val (.builtin "Exception.__init__"))
  too : ErrC K mg "TooLong" R.cT R.fT
  FT : L2.Fun K "__init__" "TooLong.__init__" sTooI R.fT R.dT
  bT : L2.Binds K R.dT ["self"] []
  xT : PySem.W.exmOne K (.ref R.cT) (.ref R.cRef) = some true
/-! ### check_lengths -/
def spCheck (K : PySem.W.Frag) (R : RefAd) : Sp := fun vs H Q E => ∃ (l : Addr) (as : List Addr) (ns : List Nat), vs = [.ref l] ∧ H l = some (.lst (as.map V.ref)) ∧ Paired (fun a n => ∃ xs, SqL K H a xs ∧ xs.length = n) as ns ∧ ((∀ n ∈ ns, n ≤ 4096) → Q .non H) ∧ ((∃ n ∈ ns, 4096 < n) → Rs R.cT E (-1) [])
theorem scCheck : FnScope ["texts", "text"] ["texts"] (defScope sCheck) := ⟨rfl, rfl, rfl, by decide +kernel, rfl, by decide +kernel, by decide +kernel⟩
theorem ok_check {R : RefAd} (T : RefC K mg R) {f : Addr} {fd : FuncData} (F : Fn1 K mg "check_lengths" sCheck ["texts"] f fd) (ml : mg "len" = none) (LT : Gi mg "LONGEST_TEXT" 4096) : FnOk P w K mg base (L2N.CX P w) 4 f fd ["texts"] (spCheck K R) := by
  refine okN F.F scCheck (fun vs H Q E h => ?_) (fun cdv A0 outer s H vs Q E hr h => ?_)
  · obtain ⟨l, as, ns, rfl, _⟩ := h
    rfl
  obtain ⟨l, as, ns, rfl, hl, hp, good, rs⟩ := h
  have hr3 : Room 3 _ := hr.mono (by omega)
  have tk := L2N.takes_of (X := cxOf (L2N.CX P w) P w K mg base ["texts", "text"] "check_lengths" (defScope sCheck) f cdv A0 outer s H E) (E := E) rfl rfl rfl rfl
  refine ⟨_, pss_one (ps_for (passes_of rfl) rfl (pi_list (pv 0)) (pg_name (i := 1) scCheck.nd rfl (Or.inl rfl))
      (pss_one (ps_if (pt_cmpR op_gt (pe_callB call_len_seq rfl ml PySem.boot_len (pa_cons (pv 1) pa_nil)) (pe_gi rfl LT) (nomark _))
        (pss_one (L2N.ps_raise rfl tk (pmk_exN0 T.too.ex T.too.iC T.too.tI (ok_tooI T.FT T.FRef T.bRef T.ref.g T.cr T.cv T.mE T.vE) hr3 T.bT pass0 rfl T.too.g))) pss_nil))), ?_⟩
  have len : as.length = ns.length := Paired.length hp
  refine ⟨_, rfl, l, rfl, ⟨_, SqL.of hl⟩, for_list (xs := as.map V.ref) (fun i σ H' => H = H' ∧ (∃ o, σ = [some (.ref l), o]) ∧ ∀ n ∈ ns.take i, n ≤ 4096) ⟨rfl, ⟨none, rfl⟩, by simp⟩ (fun i σ H' _ ⟨e, _⟩ => by rw [← e]; exact SqL.of hl) (fun i v σ H' hi ⟨e, ⟨o, eσ⟩, al⟩ => ?_) (fun σ H' ⟨e, _, al⟩ => ?_)⟩
  · subst e
    subst eσ
    rw [List.getElem?_map] at hi
    cases ha : as[i]? with
    | none => rw [ha] at hi; cases hi
    | some a =>
      rw [ha] at hi
      obtain rfl : V.ref a = v := Option.some.inj hi
      obtain ⟨n, hn, xs, hx, ex⟩ := paired_fst hp i a ha
      refine ⟨_, rfl, a, xs, rfl, .inl hx, _, _, rfl, rfl, _, rfl, ?_⟩
      rw [ex]
      refine ite2 (fun c => ?_) (fun c => ?_)
      · have c' : 4096 < n := by have := of_decide_eq_true c; omega
        show tMkN R.cT (spTooI K) tNil _ _ _
        exact mk_too T.too (rs ⟨n, List.mem_of_getElem? hn, c'⟩)
      · have c' : n ≤ 4096 := by have := of_decide_eq_false (Bool.eq_false_iff.mpr c); omega
        refine ⟨rfl, ⟨_, rfl⟩, fun k hk => ?_⟩
        rw [List.take_add_one, hn] at hk
        rcases List.mem_append.mp hk with z | z
        · exact al k z
        · simp at z
          rw [z]
          exact c'
  · subst e
    rw [List.length_map, len, List.take_length] at al
    exact good al
end
end SDP
set_option Elab.async false
set_option linter.all false
set_option maxRecDepth 100000
set_option maxHeartbeats 4000000
namespace SDP
open PySem PySem.Spec PyProof.Rows L2 SDX SD TL
open SeamNum (Bytes)
open SeamText (Toks Got isWord signs ownName statement readDraft Draft)
section
variable {P : Program} {w : World} {K : PySem.W.Frag} {mg : Str → Option Value} {base : Heap} {D : RdAd} {A : FAd} {B : SAd} {fO fT fB fR fP fL fD fN fK : Addr} {dO dT dB dR dP dL dD dN dK : FuncData}
structure EndT (K : PySem.W.Frag) (w : World) (mg : Str → Option Value) (D : RdAd) (A : FAd) (B : SAd) (R : RefAd) : Prop where
  T : StT K w mg D A B
  RC : RefC K mg R
  xN : PySem.W.exmOne K (.ref D.cNo) (.ref R.cRef) = some true
  LT : Gi mg "LONGEST_TEXT" 4096
  ml : mg "len" = none
end
end SDP
set_option Elab.async false
set_option linter.all false
set_option maxRecDepth 100000
set_option maxHeartbeats 4000000
namespace SDP
open PySem PySem.Spec PyProof.Rows L2 SDX SD TL
open SeamNum (Bytes)
section
variable {P : Program} {w : World} {K : PySem.W.Frag} {mg : Str → Option Value} {base : Heap}
/-! ### bytes_of -/
def spBytesOf : Sp := fun vs H Q _ => ∃ b : Bytes, vs = [.str (tx b)] ∧ b.length ≤ 10000000 ∧ ∀ H' p, Same H H' → H p = none → H' p = some (.lst (b.map fun c => V.int (c.toNat : Int))) → Q (.ref p) H'
theorem scBytesOf : FnScope ["text", "sign"] ["text"] (defScope S_bytes_of) := ⟨rfl, rfl, rfl, by decide +kernel, rfl, by decide +kernel, by decide +kernel⟩
theorem ok_bytesOf {f : Addr} {fd : FuncData} (F : Fn1 K mg "bytes_of" S_bytes_of ["text"] f fd) (mo : mg "ord" = none) : FnOk P w K mg base CX0 1 f fd ["text"] spBytesOf := by
  refine F.F.ok scBytesOf (fun vs H Q E h => ?_) (fun cdv A outer s H vs Q E hr h => ?_)
  · obtain ⟨b, rfl, _⟩ := h
    rfl
  obtain ⟨b, rfl, hl, k⟩ := h
  refine ⟨_, pss_one (ps_ret (pe_lc (own := [("sign", 1)]) (g := gName 1) (tt := tYes) rfl scBytesOf.nd (pi_str (pv 0)) (blkOk_by (N := ["text", "sign"]) (sc := defScope S_bytes_of) (by decide +kernel))
      (fun _ _ _ _ _ => pg_name (i := 1) scBytesOf.nd rfl (Or.inl rfl)) (fun _ _ _ _ _ => pts_nil) (fun _ _ _ _ _ => pe_callB call_ord rfl mo PyProof.Rows.boot_ord (pa_cons (pv 1) pa_nil)))), ?_⟩
  have hlen : (tx b).cps.size = b.length := by show ((b.map UInt8.toNat).toArray).size = _; simp
  refine ⟨_, rfl, _, rfl, fun D2 hD2 => ?_⟩
  refine lc_it walk_str (fun i H' => Same H H' ∧ H' D2 = some (.lst ((b.take i).map fun c => V.int (c.toNat : Int)))) ⟨same_new hD2 _, upd_same⟩ (fun _ _ _ _ => True.intro) (fun i x H1 H2 hi ⟨s1, s2⟩ hy => ?_) (fun H1 ⟨s1, s2⟩ => ?_)
  · obtain ⟨rfl, c, hc, rfl⟩ := hy
    rw [hlen] at hi
    have ec : b[i]? = some b[i] := List.getElem?_eq_getElem hi
    have ec2 : c = b[i].toNat := by
      have z := tx_get ec
      rw [hc] at z
      exact Option.some.inj z
    subst ec2
    refine ⟨rfl, _, rfl, _, rfl, rfl, _, s2, by rw [List.length_map, List.length_take, sizeLine_eq]; omega, ?_, ?_⟩
    · intro b' o hb
      rw [upd_ne (ne_of_none hb hD2)]
      exact s1 b' o hb
    · rw [upd_same, List.take_add_one, ec, List.map_append]
      rfl
  · rw [hlen, List.take_length] at s2
    exact k _ D2 s1 hD2 s2
end
end SDP
set_option Elab.async false
set_option linter.all false
set_option maxRecDepth 100000
set_option maxHeartbeats 4000000
namespace SDP
open PySem PySem.Spec PyProof.Rows L2 SDX SD TL
open SeamNum (Bytes)
open SeamText (Toks Got isWord signs ownName statement readDraft Draft)
section
variable {P : Program} {w : World} {K : PySem.W.Frag} {mg : Str → Option Value} {base : Heap} {D : RdAd} {A : FAd} {B : SAd} {fO fT fB fR fP fL fD fN fK : Addr} {dO dT dB dR dP dL dD dN dK : FuncData}
theorem scPrintd : FnScope ["statements", "lines", "statement"] ["statements"] (defScope sPrintd) := ⟨rfl, rfl, rfl, by decide +kernel, rfl, by decide +kernel, by decide +kernel⟩
theorem scPrOf : FnScope ["t", "statements", "e", "told"] ["t"] (defScope sPrOf) := ⟨rfl, rfl, rfl, by decide +kernel, rfl, by decide +kernel, by decide +kernel⟩
def spPrintd : Sp := fun vs H Q _ => ∃ (p : Addr) (ds : Draft), vs = [.ref p] ∧ DraftL H p ds ∧ (∀ s ∈ ds, stFine s) ∧ (ds.map stW).sum ≤ 5000 ∧ ∀ H' x, Same H H' → H' x = some (.lst ((ds.flatMap lineB).map fun c => V.int (c.toNat : Int))) → Q (.ref x) H'
structure PrT (K : PySem.W.Frag) (w : World) (mg : Str → Option Value) (pa : Addr) (es : Array DictEntry) (n : Nat) (fa fs fw ft fp fu fap ftx : Addr) (da ds dw dt dp du dap dtx : FuncData) : Prop where
  G : PrG K w mg
  D : PartsK K w mg pa es n
  FA : Fn1 K mg "at_least" sAtL ["firmness", "part"] fa da
  FS : Fn1 K mg "with_sign" sSignW ["sign", "left", "right"] fs ds
  FW : Fn1 K mg "with_parts" sWith ["what", "parts"] fw dw
  FT : Fn1 K mg "tokens_of_steps" sStepsW ["steps"] ft dt
  FP : Fn1 K mg "tokens_of_piece" sPieceW ["name", "corners", "grain"] fp dp
  FU : Fn1 K mg "tokens_of_statement" sStW ["statement"] fu du
  FAp : Fn1 K mg "stand_apart" sApart ["left", "right"] fap dap
  FTx : Fn1 K mg "text_of_tokens" sTextW ["tokens"] ftx dtx
theorem sum_ge : ∀ (l : List Nat), (∀ k ∈ l, 1 ≤ k) → l.length ≤ l.sum
  | [], _ => by simp
  | a :: r, h => by
    have ih := sum_ge r fun k hk => h k (List.mem_cons_of_mem _ hk)
    have := h a (by simp)
    rw [List.length_cons, List.sum_cons]
    omega
theorem flat_map_tx (ds : Draft) : (ds.map lineB).flatten = ds.flatMap lineB := rfl
theorem stW_le {ds : Draft} {i : Nat} {s : SeamText.St} (h : ds[i]? = some s) : stW s ≤ (ds.map stW).sum := by
  have e := List.mem_of_getElem? h
  clear h
  induction ds with
  | nil => simp at e
  | cons a r ih =>
    rw [List.map_cons, List.sum_cons]
    rcases List.mem_cons.mp e with z | z
    · rw [z]; omega
    · have := ih z; omega
theorem ok_printd {pa : Addr} {es : Array DictEntry} {n : Nat} {fa fs fw ft fp fu fap ftx : Addr} {da ds dw dt dp du dap dtx : FuncData} (T : PrT K w mg pa es n fa fs fw ft fp fu fap ftx da ds dw dt dp du dap dtx) {fY : Addr} {dY : FuncData} (FY : Fn1 K mg "bytes_of" S_bytes_of ["text"] fY dY) {f : Addr} {fd : FuncData} (F : Fn1 K mg "printed" sPrintd ["statements"] f fd) :
    FnOk P w K mg base CX0 5 f fd ["statements"] spPrintd := by
  refine F.F.ok scPrintd (fun vs H Q E h => ?_) (fun cdv A0 outer s H vs Q E hr h => ?_)
  · obtain ⟨p, ds, rfl, _⟩ := h
    rfl
  obtain ⟨p, ds, rfl, ⟨vs, hp, hpd⟩, hF, hW, q⟩ := h
  have hr2 : Room 2 _ := hr.mono (by decide)
  have hr1 : Room 1 _ := hr.mono (by decide)
  refine ⟨_, pss_cons (ps_setLc (i := 1) (own := [("statement", 2)]) (g := gName 2) (tt := tYes) rfl scPrintd.nd rfl rfl (sw_true rfl rfl rfl rfl) (pi_list (pv 0)) (blkOk_by (N := ["statements", "lines", "statement"]) (sc := defScope sPrintd) (by decide +kernel))
        (fun _ _ _ _ _ => pg_name (i := 2) scPrintd.nd rfl (Or.inl rfl)) (fun _ _ _ _ _ => pts_nil)
        (fun _ _ _ _ _ => pe_op op_add_str (pe_call (ok_textW T.G T.FAp T.FTx) hr2 rfl T.FTx.m T.FTx.F.kp T.FTx.b .nil pass0 (pa_cons (pe_op op_cat (pe_call (ok_stW T.G T.D T.FA T.FS T.FW T.FT T.FP T.FU) hr rfl T.FU.m T.FU.F.kp T.FU.b .nil pass0 (pa_cons (pv 2) pa_nil)) (pe_lst (pa_cons pe_str pa_nil))) pa_nil)) pe_str))
    (pss_one (ps_ret (pe_call (ok_bytesOf FY T.G.ord) hr1 rfl FY.m FY.F.kp FY.b .nil pass0 (pa_cons (pe_bm PySem.F.plainAttrs_str PySem.F.slot_str_join PySem.F.type_str_join mt_join pe_str (pa_cons (pv 1) pa_nil)) pa_nil)))), ?_⟩
  have e59 : Str.ofString ";" = tx [59] := by decide +kernel
  have e10 : Str.ofString "\n" = tx [10] := by decide +kernel
  have lenV : vs.length = ds.length := Paired.length hpd
  have hlines := lines_len hF
  refine ⟨_, rfl, p, rfl, ⟨_, SqL.of hp⟩, fun L hL => ?_⟩
  refine lc_it walk_list (fun i H' => Same H H' ∧ H' L = some (.lst ((ds.take i).map fun s => V.str (tx (lineB s))))) ⟨same_new hL _, by rw [List.take_zero]; exact upd_same⟩ (fun i H' _ ⟨s1, _⟩ => SqL.of (s1 _ _ hp)) (fun i x H1 H2 hi ⟨s1, e1⟩ hy => ?_) (fun H2 ⟨s1, e1⟩ => ?_)
  · obtain ⟨rfl, hx⟩ := hy
    have hi2 : i < ds.length := by omega
    have ed : ds[i]? = some ds[i] := List.getElem?_eq_getElem hi2
    obtain ⟨v, ev, hR⟩ := paired_at hpd i _ ed
    rw [ev] at hx
    injection hx with hx
    subst hx
    have hFi := hF _ (List.getElem_mem hi2)
    have hwi := stW_le ed
    have etk : ds.take (i + 1) = ds.take i ++ [ds[i]] := by
      rw [List.take_add_one, ed]
      rfl
    generalize ds[i] = st at ed hR hFi hwi etk
    refine ⟨rfl, _, rfl, v, st, rfl, hR.kp (Kp.same (M := []) s1) (by simp), hFi, by omega, fun H3 x s3 e3 => ?_⟩
    rw [e59, e10]
    refine ⟨(by show 1 ≤ sizeLine; decide), fun p1 hp1 => ?_⟩
    have s4 : Same H3 (upd H3 p1 (.lst [.str (tx [59])])) := same_new hp1 _
    have hb := stB_len hFi
    refine ⟨x, p1, _, _, rfl, rfl, s4 _ _ e3, upd_same, by rw [List.length_map, sizeLine_eq]; show _ + 1 ≤ _; omega, fun p2 hp2 => ?_⟩
    generalize upd H3 p1 (.lst [.str (tx [59])]) = H4 at s4 hp2 ⊢
    have s5 := same_new (H := H4) hp2 (.lst (((stB st).map fun b => V.str (tx b)) ++ [.str (tx [59])]))
    refine ⟨p2, stB st ++ [[59]], rfl, ?_, by rw [List.length_append, List.length_singleton]; omega, tokens_short hFi, fun H6 s6 => ?_⟩
    · rw [upd_same]
      unfold strL
      rw [List.map_append]
      rfl
    have app : ∀ u v : Bytes, tx u ++ tx v = tx (u ++ v) := fun u v => ext_tl (by rw [tl_append]; show u.map UInt8.toNat ++ v.map UInt8.toNat = (u ++ v).map UInt8.toNat; rw [List.map_append])
    have hll := line_len hFi
    have hl2 : (lineB st).length = (joinB (stB st ++ [[59]])).length + 1 := by
      unfold lineB
      rw [List.length_append]
      rfl
    have sAll := ((s3.trans s4).trans s5).trans s6
    refine ⟨_, _, rfl, rfl, by rw [tx_len, tx_len, sizeLine_eq]; show _ + 1 ≤ _; omega, _, sAll _ _ e1, by rw [List.length_map, List.length_take, sizeLine_eq]; have : ds.length ≤ 5000 := by { rw [← List.length_map (f := stW)]; refine Nat.le_trans ?_ hW; refine sum_ge _ fun k hk => ?_; obtain ⟨z, hz, ez⟩ := List.mem_map.mp hk; rw [← ez]; cases z <;> simp [stW] }; omega, ?_, ?_⟩
    · exact same_kp (s1.trans sAll) (Kp.put (sAll _ _ e1) rfl (by simp) : Kp [L] H6 _) (by simp [hL])
    · rw [upd_same, etk, List.map_append, app]
      rfl
  · rw [lenV, List.take_length] at e1
    have e0 : (Str.ofString "").length = 0 := by decide +kernel
    have hds : ds.length ≤ 5000 := by
      rw [← List.length_map (f := stW)]
      refine Nat.le_trans ?_ hW
      refine sum_ge _ fun k hk => ?_
      obtain ⟨z, hz, ez⟩ := List.mem_map.mp hk
      rw [← ez]
      cases z <;> simp [stW]
    refine ⟨rfl, _, rfl, _, L, (ds.map lineB).map tx, rfl, rfl, .inl ?_, ?_, ?_⟩
    · rw [List.map_map, List.map_map]
      exact SqL.of e1
    · rw [sum_len, flat_map_tx, e0, Nat.mul_zero]
      omega
    rw [join_flat, flat_map_tx]
    exact ⟨_, rfl, by omega, fun H3 D2 s3 _ e3 => q H3 D2 (s1.trans s3) e3⟩
end
end SDP
set_option Elab.async false
set_option linter.all false
set_option maxRecDepth 100000
set_option maxHeartbeats 4000000
namespace SDP
open PySem PySem.Spec PyProof.Rows L2 SDX SD TL
open SeamNum (Bytes)
open SeamText (readDraft Draft)
def printOut (b : Bytes) : List Int := if 4096 < b.length then [-1, 0, 0] else match readDraft b with
  | .error e => [-2, 0, 2, (e.1 : Int), (e.2 : Int)]
  | .ok d => ((SeamText.printed d).length : Int) :: ((SeamText.printed d).length : Int) :: (SeamText.printed d).map (fun c => (c.toNat : Int)) ++ [0]
def spPrOf (K : PySem.W.Frag) : Sp := fun vs H Q _ => ∃ (a : Addr) (b : Bytes), vs = [.ref a] ∧ BytesL K H a b ∧ b.length ≤ 4200 ∧ ∀ (H' : Hp) (p : Addr), H' p = some (.lst ((printOut b).map V.int)) → Q (.ref p) H'
section
variable {P : Program} {w : World} {K : PySem.W.Frag} {mg : Str → Option Value} {base : Heap} {D : RdAd} {A : FAd} {B : SAd} {fO fT fB fR fP fL fD fN fK : Addr} {dO dT dB dR dP dL dD dN dK : FuncData}
theorem ok_prOf {R : RefAd} (T : EndT K w mg D A B R) (O : Fn1 K mg "tokens_of" sToksOf ["t"] fO dO) (TF : ToksF K mg fT fB fR fP fL fD fN fK dT dB dR dP dL dD dN dK) {fA fC fPr fY : Addr} {dA dC dPr dY : FuncData} (FA : Fn1 K mg "answer" sAnsw ["number", "told", "signed"] fA dA)
    (FC : Fn1 K mg "check_lengths" sCheck ["texts"] fC dC) {pa : Addr} {es : Array DictEntry} {n : Nat} {fa fs fw ft fp fu fap ftx : Addr} {da ds dw dt dp du dap dtx : FuncData} (TP : PrT K w mg pa es n fa fs fw ft fp fu fap ftx da ds dw dt dp du dap dtx) (FY : Fn1 K mg "bytes_of" S_bytes_of ["text"] fY dY) (FP : Fn1 K mg "printed" sPrintd ["statements"] fPr dPr)
    {f : Addr} {fd : FuncData} (F : Fn1 K mg "print_of" sPrOf ["t"] f fd) : FnOk P w K mg base CX0 34 f fd ["t"] (spPrOf K) := by
  refine F.F.ok scPrOf (fun vs H Q E h => ?_) (fun cdv A0 outer s H vs Q E hr h => ?_)
  · obtain ⟨a, b, rfl, _⟩ := h
    rfl
  obtain ⟨pa, b, rfl, hB, hb, good⟩ := h
  have hr1 : Room 1 _ := hr.mono (by omega)
  have hr5 : Room 5 _ := hr.mono (by omega)
  have hr4 : Room 4 _ := hr.mono (by omega)
  have hr2 : Room 32 _ := hr.mono (by omega)
  have TR := T.T.T.T
  refine ⟨_, pss_cons (L2N.ps_try_as (i := 2) (tb := fun W => tSeq (tDrop (tCallS (spCheck K R) (WE W) (tCons (tLst (tCons (tVar 0) tNil)) tNil))) (tAsg (tCallS (spDraft K D) (WE W) (tCons (tVar 0) tNil)) (gName 1)))
      (ts := fun a cls d => tRet (tCallS spAnsw (fun _ => E0) (tCons (tXfA K a cls d "number" (tVar 2)) (tCons (tLst tNil) (tCons (tXfA K a cls d "signed" (tVar 2)) tNil))))) (Wout := fun _ _ _ _ => False) rfl rfl scPrOf.nd rfl rfl ⟨rfl, by decide, Or.inl T.RC.ref.g⟩ takesN0
      (fun W pn xe tk _ => pss_cons (ps_expr (by exact (pe_callS (ok_check T.RC FC T.ml T.LT) hr4 rfl FC.m FC.F.kp FC.b (fun σ => L2N.passAt tk σ) (by exact (pa_cons (pe_lst (pa_cons (pv 0) pa_nil)) pa_nil))))) (pss_one (ps_set (i := 1) scPrOf.nd rfl (Or.inl rfl) (by exact (pe_callS (ok_draft T.T T.ml O TF) hr2 rfl T.T.Dr.m T.T.Dr.F.kp T.T.Dr.b (fun σ => L2N.passAt tk σ) (by exact (pa_cons (pv 0) pa_nil)))))))
      (fun a oe cls d pn hz hf => pss_one (ps_ret (by exact (L2H.pe_callH (ok_answH FA T.ml) (roomH_mk hr1 _) (hot_suite hz hf) rfl FA.m FA.F.kp FA.b (fun σ => passAt0 σ) (by exact (pa_cons (pe_xfA hz hf (pv 2)) (pa_cons (pe_lst pa_nil) (pa_cons (pe_xfA hz hf (pv 2)) pa_nil)))))))))
    (pss_cons (ps_set (i := 3) scPrOf.nd rfl (Or.inl rfl) (pe_call (ok_printd TP FY FP) hr5 rfl FP.m FP.F.kp FP.b .nil pass0 (pa_cons (pv 1) pa_nil)))
    (pss_one (ps_ret (pe_call (ok_answ FA T.ml) hr1 rfl FA.m FA.F.kp FA.b .nil pass0 (pa_cons (pe_callB call_len_seq rfl T.ml PySem.boot_len (pa_cons (pv 3) pa_nil)) (pa_cons (pv 3) (pa_cons (pe_lst pa_nil) pa_nil))))))), ?_⟩
  have bl : ∃ xs, SqL K H pa xs ∧ xs.length = b.length := ⟨_, hB, List.length_map _⟩
  refine ⟨_, rfl, by show 1 ≤ sizeLine; decide, fun tp htp => ?_⟩
  have s1 : Same H (upd H tp (.lst [.ref pa])) := same_new htp _
  have ht : (upd H tp (.lst [.ref pa])) tp = some (.lst ([pa].map V.ref)) := upd_same
  generalize upd H tp (.lst [.ref pa]) = H1 at s1 ht ⊢
  refine ⟨tp, [pa], [b.length], rfl, ht, .cons (let ⟨xs, h1, h2⟩ := bl; ⟨xs, s1.seq h1, h2⟩) .nil, fun c => ?_, fun c => ?_⟩
  · have c' : b.length ≤ 4096 := c _ (by simp)
    refine ⟨_, rfl, pa, b, rfl, s1.seq hB, hb, fun ds H2 p eb s2 hp hD h128 => ?_, fun e eb => ?_⟩
    · obtain ⟨f1, f2⟩ := draft_fine eb
      have hll := lines_len f1
      have epr := printed_is f1
      refine ⟨_, rfl, p, ds, rfl, hD, f1, by omega, fun H2 x s2 e2 => ?_⟩
      refine ⟨_, rfl, x, _, rfl, .inl (SqL.of e2), _, rfl, (by show 0 ≤ sizeLine; decide), fun p2 hp2 => ?_⟩
      refine ⟨_, x, p2, _, [], rfl, by rw [upd_ne (ne_of_none e2 hp2)]; exact e2, upd_same, by rw [List.length_map]; omega, Nat.zero_le _, fun H3 p3 _ e3 => good H3 p3 ?_⟩
      rw [e3]
      unfold printOut
      rw [if_neg (by omega), eb, ← epr]
      show _ = some (HO.lst ((((SeamText.printed ds).length : Int) :: ((SeamText.printed ds).length : Int) :: (SeamText.printed ds).map (fun (c : UInt8) => (c.toNat : Int)) ++ [0]).map V.int))
      generalize SeamText.printed ds = X
      rw [List.append_nil, List.map_append, List.map_cons, List.map_cons, List.map_map, List.length_map]
      rfl
    · intro d l H2 ed el
      refine ⟨true, T.xN, fun _ a0 _ => ?_, fun q => Bool.noConfusion q⟩
      refine ⟨_, rfl, rfl, D.cNo, rfl, TR.no.xf, TR.no.noN, d, _, _, rfl, ed, rfl, (by show 0 ≤ sizeLine; decide), fun p1 hp1 => ?_⟩
      refine ⟨_, rfl, rfl, D.cNo, rfl, TR.no.xf, TR.no.noS, d, _, _, rfl, by rw [upd_ne (ne_of_none ed hp1)]; exact ed, rfl, ?_⟩
      refine ⟨-2, p1, l, [], _, rfl, upd_same, by rw [upd_ne (ne_of_none el hp1)]; exact el, Nat.zero_le _, (by show 2 ≤ 1000; decide), fun H3 p _ e2 => good H3 p ?_⟩
      rw [e2]
      unfold printOut
      rw [if_neg (by omega), eb]
      rfl
  · have c' : 4096 < b.length := by
      obtain ⟨n, hn, c⟩ := c
      rw [List.mem_singleton.mp hn] at c
      exact c
    intro d l H2 ed el
    refine ⟨true, T.RC.xT, fun _ a0 _ => ?_, fun q => Bool.noConfusion q⟩
    refine ⟨_, rfl, rfl, R.cT, rfl, T.RC.too.xf, T.RC.too.noN, d, _, _, rfl, ed, rfl, (by show 0 ≤ sizeLine; decide), fun p1 hp1 => ?_⟩
    refine ⟨_, rfl, rfl, R.cT, rfl, T.RC.too.xf, T.RC.too.noS, d, _, _, rfl, by rw [upd_ne (ne_of_none ed hp1)]; exact ed, rfl, ?_⟩
    refine ⟨-1, p1, l, [], _, rfl, upd_same, by rw [upd_ne (ne_of_none el hp1)]; exact el, Nat.zero_le _, Nat.zero_le _, fun H3 p _ e2 => good H3 p ?_⟩
    rw [e2]
    unfold printOut
    rw [if_pos c']
    rfl
end
end SDP
set_option Elab.async false
set_option linter.all false
set_option maxRecDepth 100000
set_option maxHeartbeats 4000000
/-! # What the top has left -/
namespace SDP
open PySem PySem.Spec PyProof.Rows L2 SDX SD TL
open SeamNum (Bytes)
def strEq : List Value → List Str → Bool
  | [], [] => true
  | .str z _ :: r, y :: s => decide (z = y) && strEq r s
  | _, _ => false
theorem strEq_vals : ∀ {l : List Value} {zs : List Str}, strEq l zs = true → Vals (zs.map V.str) l
  | [], [], _ => .nil
  | .str z t :: r, y :: s, h => by
    have h2 : (decide (z = y) && strEq r s) = true := h
    obtain ⟨h3, h4⟩ := Bool.and_eq_true_iff.mp h2
    have e : z = y := of_decide_eq_true h3
    subst e
    exact .cons ⟨t, rfl⟩ (strEq_vals h4)
def tupB (o : Obj) (zs : List Str) : Bool := (match o.cls with
  | .type c => decide (c = "tuple")
  | _ => false) && (match o.data with
  | .seq its _ => decide (its.size ≤ 100) && strEq its.toList zs
  | _ => false)
theorem tupB_ok {K : PySem.W.Frag} {p : Addr} {o : Obj} {zs : List Str} (l : K.lookup p = some o) (h : tupB o zs = true) (H : Hp) : SqT K H p (zs.map V.str) := by
  unfold tupB at h
  obtain ⟨h1, h2⟩ := Bool.and_eq_true_iff.mp h
  have hc : o.cls = .type "tuple" := by
    revert h1
    cases o.cls with
    | type c =>
      intro h1
      rw [of_decide_eq_true h1]
    | _ => intro h1; cases h1
  revert h2
  cases e : o.data with
  | seq its n =>
    intro h2
    obtain ⟨h3, h4⟩ := Bool.and_eq_true_iff.mp h2
    have h5 : its.size ≤ 100 := of_decide_eq_true h3
    exact .inr ⟨o, its, n, l, hc, e, by rw [sizeLine_eq]; omega, strEq_vals h4⟩
  | _ => intro h2; cases h2
section
variable {w : World} {K : PySem.W.Frag} {h : Heap} {mg : Str → Option Value}
theorem mk_gi (X : K.In h) (G : h.Ns mainGlobals mg) {x : Str} {n : Int} {t : Tok} (a : PySem.W.nsIn K mainGlobals x = some (some (.int n t))) : Gi mg x n := ⟨t, PySem.W.mg_of X G a⟩
theorem mk_gs (X : K.In h) (G : h.Ns mainGlobals mg) {x z : Str} {b : Bytes} {t : Tok} (a : PySem.W.nsIn K mainGlobals x = some (some (.str z t))) (e : decide (z = tx b) = true) : Gs mg x b := ⟨t, by rw [← of_decide_eq_true e]; exact PySem.W.mg_of X G a⟩
theorem mk_gt (X : K.In h) (G : h.Ns mainGlobals mg) {x : Str} {p : Addr} {o : Obj} {l : List Bytes} (a : PySem.W.nsIn K mainGlobals x = some (some (.ref p))) (lk : K.lookup p = some o) (e : tupB o (l.map tx) = true) : Gt K mg x l := by
  refine ⟨p, PySem.W.mg_of X G a, fun H => ?_⟩
  have q := tupB_ok lk e H
  rw [List.map_map] at q
  exact q
theorem mk_none (X : K.In h) (G : h.Ns mainGlobals mg) {x : Str} (a : PySem.W.nsIn K mainGlobals x = some none) : mg x = none := PySem.W.mg_none_of X G a
theorem er_Refusal (X : K.In h) (G : h.Ns mainGlobals mg) {f : Addr} {oc : Value} {od an : Option Addr} {osl : Array (Option Value)} {kV doc pm cdv ct : Value} {C N : Addr} {nm q : Str} {bs bm : List Value} {sn : List Str} {sub : List Value} {ab : Bool} {col : Option Bool} {dd : Option Addr} {m0 m1 m2 m3 m5 : Option Value}
    (aC : PySem.W.nsIn K mainGlobals "Refusal" = some (some (.ref C))) (xL : K.lookup C = some (excClassObj nm q C N bs bm true sn sub ab col dd m0 m1 m2 m3 m5 "Exception.__new__")) (xB : refsEx bm = true)
    (sa : PySem.W.findIn K (.ref C) "__setattr__" = some (some (.builtin "object.__setattr__"))) (eC : PySem.W.subIn K (.ref C) (.type "BaseException") = some true) (tC : PySem.W.typeIn K (.ref C) = some (.type "type")) (kC : PySem.W.keepIn K (.ref C) = true)
    (ga : PySem.W.findIn K (.ref C) "__getattribute__" = some (some (.builtin "BaseException.__getattribute__"))) (gg : PySem.W.findIn K (.ref C) "__getattr__" = some none) (hC : PySem.W.hasDictIn K C = true) (nN : PySem.W.findIn K (.ref C) "number" = some none) (nS : PySem.W.findIn K (.ref C) "signed" = some none)
    (a : PySem.W.findIn K (.ref C) "__init__" = some (some (.ref f))) (t : PySem.W.typeIn K (.ref f) = some (.type "function")) (l : K.lookup f = some ⟨oc, od, .func (PySem.W.fnOf "__init__" "Refusal.__init__" (defArgs sRefI) (defBody sRefI) (defScope sRefI) .none kV doc pm an cdv ct), osl⟩) (c : PySem.W.codeIn K cdv "Refusal.__init__" = true) (k : PySem.W.keepIn K (.ref f) = true) :
    ErrC K mg "Refusal" C f ∧ L2.Fun K "__init__" "Refusal.__init__" sRefI f (PySem.W.fnOf "__init__" "Refusal.__init__" (defArgs sRefI) (defBody sRefI) (defScope sRefI) .none kV doc pm an cdv ct) ∧ L2.Binds K (PySem.W.fnOf "__init__" "Refusal.__init__" (defArgs sRefI) (defBody sRefI) (defScope sRefI) .none kV doc pm an cdv ct) ["self", "number", "signed"] [] :=
  ⟨{ g := PySem.W.mg_of X G aC, ex := ⟨⟨nm, q, N, bs, bm, sn, sub, ab, col, dd, m0, m1, m2, m3, m5, xL, xB⟩, sa, eC, tC, kC⟩, noN := nN, noS := nS, iC := a, tI := t, xf := ⟨ga, gg, eC, hC⟩ }, fun_mk l c k, L2.Binds.all fun us hl => match us, hl with | [_, _, _], _ => rfl⟩
theorem er_TooLong (X : K.In h) (G : h.Ns mainGlobals mg) {f : Addr} {oc : Value} {od an : Option Addr} {osl : Array (Option Value)} {kV doc pm cdv ct : Value} {C N : Addr} {nm q : Str} {bs bm : List Value} {sn : List Str} {sub : List Value} {ab : Bool} {col : Option Bool} {dd : Option Addr} {m0 m1 m2 m3 m5 : Option Value}
    (aC : PySem.W.nsIn K mainGlobals "TooLong" = some (some (.ref C))) (xL : K.lookup C = some (excClassObj nm q C N bs bm true sn sub ab col dd m0 m1 m2 m3 m5 "Exception.__new__")) (xB : refsEx bm = true)
    (sa : PySem.W.findIn K (.ref C) "__setattr__" = some (some (.builtin "object.__setattr__"))) (eC : PySem.W.subIn K (.ref C) (.type "BaseException") = some true) (tC : PySem.W.typeIn K (.ref C) = some (.type "type")) (kC : PySem.W.keepIn K (.ref C) = true)
    (ga : PySem.W.findIn K (.ref C) "__getattribute__" = some (some (.builtin "BaseException.__getattribute__"))) (gg : PySem.W.findIn K (.ref C) "__getattr__" = some none) (hC : PySem.W.hasDictIn K C = true) (nN : PySem.W.findIn K (.ref C) "number" = some none) (nS : PySem.W.findIn K (.ref C) "signed" = some none)
    (a : PySem.W.findIn K (.ref C) "__init__" = some (some (.ref f))) (t : PySem.W.typeIn K (.ref f) = some (.type "function")) (l : K.lookup f = some ⟨oc, od, .func (PySem.W.fnOf "__init__" "TooLong.__init__" (defArgs sTooI) (defBody sTooI) (defScope sTooI) .none kV doc pm an cdv ct), osl⟩) (c : PySem.W.codeIn K cdv "TooLong.__init__" = true) (k : PySem.W.keepIn K (.ref f) = true) :
    ErrC K mg "TooLong" C f ∧ L2.Fun K "__init__" "TooLong.__init__" sTooI f (PySem.W.fnOf "__init__" "TooLong.__init__" (defArgs sTooI) (defBody sTooI) (defScope sTooI) .none kV doc pm an cdv ct) ∧ L2.Binds K (PySem.W.fnOf "__init__" "TooLong.__init__" (defArgs sTooI) (defBody sTooI) (defScope sTooI) .none kV doc pm an cdv ct) ["self"] [] :=
  ⟨{ g := PySem.W.mg_of X G aC, ex := ⟨⟨nm, q, N, bs, bm, sn, sub, ab, col, dd, m0, m1, m2, m3, m5, xL, xB⟩, sa, eC, tC, kC⟩, noN := nN, noS := nS, iC := a, tI := t, xf := ⟨ga, gg, eC, hC⟩ }, fun_mk l c k, L2.Binds.all fun us hl => match us, hl with | [_], _ => rfl⟩
theorem er_NoDraft (X : K.In h) (G : h.Ns mainGlobals mg) {f : Addr} {oc : Value} {od an : Option Addr} {osl : Array (Option Value)} {kV doc pm cdv ct : Value} {C N : Addr} {nm q : Str} {bs bm : List Value} {sn : List Str} {sub : List Value} {ab : Bool} {col : Option Bool} {dd : Option Addr} {m0 m1 m2 m3 m5 : Option Value}
    (aC : PySem.W.nsIn K mainGlobals "NoDraft" = some (some (.ref C))) (xL : K.lookup C = some (excClassObj nm q C N bs bm true sn sub ab col dd m0 m1 m2 m3 m5 "Exception.__new__")) (xB : refsEx bm = true)
    (sa : PySem.W.findIn K (.ref C) "__setattr__" = some (some (.builtin "object.__setattr__"))) (eC : PySem.W.subIn K (.ref C) (.type "BaseException") = some true) (tC : PySem.W.typeIn K (.ref C) = some (.type "type")) (kC : PySem.W.keepIn K (.ref C) = true)
    (ga : PySem.W.findIn K (.ref C) "__getattribute__" = some (some (.builtin "BaseException.__getattribute__"))) (gg : PySem.W.findIn K (.ref C) "__getattr__" = some none) (hC : PySem.W.hasDictIn K C = true) (nN : PySem.W.findIn K (.ref C) "number" = some none) (nS : PySem.W.findIn K (.ref C) "signed" = some none)
    (a : PySem.W.findIn K (.ref C) "__init__" = some (some (.ref f))) (t : PySem.W.typeIn K (.ref f) = some (.type "function")) (l : K.lookup f = some ⟨oc, od, .func (PySem.W.fnOf "__init__" "NoDraft.__init__" (defArgs sNoI) (defBody sNoI) (defScope sNoI) .none kV doc pm an cdv ct), osl⟩) (c : PySem.W.codeIn K cdv "NoDraft.__init__" = true) (k : PySem.W.keepIn K (.ref f) = true) :
    ErrC K mg "NoDraft" C f ∧ L2.Fun K "__init__" "NoDraft.__init__" sNoI f (PySem.W.fnOf "__init__" "NoDraft.__init__" (defArgs sNoI) (defBody sNoI) (defScope sNoI) .none kV doc pm an cdv ct) ∧ L2.Binds K (PySem.W.fnOf "__init__" "NoDraft.__init__" (defArgs sNoI) (defBody sNoI) (defScope sNoI) .none kV doc pm an cdv ct) ["self", "kind", "place"] [] :=
  ⟨{ g := PySem.W.mg_of X G aC, ex := ⟨⟨nm, q, N, bs, bm, sn, sub, ab, col, dd, m0, m1, m2, m3, m5, xL, xB⟩, sa, eC, tC, kC⟩, noN := nN, noS := nS, iC := a, tI := t, xf := ⟨ga, gg, eC, hC⟩ }, fun_mk l c k, L2.Binds.all fun us hl => match us, hl with | [_, _, _], _ => rfl⟩
theorem mk_text_of (X : K.In h) (G : h.Ns mainGlobals mg) {f : Addr} {oc : Value} {od an : Option Addr} {osl : Array (Option Value)} {kV doc pm cdv ct : Value} (a : PySem.W.nsIn K mainGlobals "text_of" = some (some (.ref f))) (l : K.lookup f = some ⟨oc, od, .func (PySem.W.fnOf "text_of" "text_of" (defArgs sTextOf) (defBody sTextOf) (defScope sTextOf) .none kV doc pm an cdv ct), osl⟩) (c : PySem.W.codeIn K cdv "text_of" = true) (k : PySem.W.keepIn K (.ref f) = true) :
    Fn1 K mg "text_of" sTextOf ["t"] f (PySem.W.fnOf "text_of" "text_of" (defArgs sTextOf) (defBody sTextOf) (defScope sTextOf) .none kV doc pm an cdv ct) := ⟨fun_mk l c k, L2.Binds.all fun us hl => match us, hl with | [_], _ => rfl, PySem.W.mg_of X G a⟩
theorem mk_bytes_of (X : K.In h) (G : h.Ns mainGlobals mg) {f : Addr} {oc : Value} {od an : Option Addr} {osl : Array (Option Value)} {kV doc pm cdv ct : Value} (a : PySem.W.nsIn K mainGlobals "bytes_of" = some (some (.ref f))) (l : K.lookup f = some ⟨oc, od, .func (PySem.W.fnOf "bytes_of" "bytes_of" (defArgs S_bytes_of) (defBody S_bytes_of) (defScope S_bytes_of) .none kV doc pm an cdv ct), osl⟩) (c : PySem.W.codeIn K cdv "bytes_of" = true) (k : PySem.W.keepIn K (.ref f) = true) :
    Fn1 K mg "bytes_of" S_bytes_of ["text"] f (PySem.W.fnOf "bytes_of" "bytes_of" (defArgs S_bytes_of) (defBody S_bytes_of) (defScope S_bytes_of) .none kV doc pm an cdv ct) := ⟨fun_mk l c k, L2.Binds.all fun us hl => match us, hl with | [_], _ => rfl, PySem.W.mg_of X G a⟩
theorem mk_past_blanks (X : K.In h) (G : h.Ns mainGlobals mg) {f : Addr} {oc : Value} {od an : Option Addr} {osl : Array (Option Value)} {kV doc pm cdv ct : Value} (a : PySem.W.nsIn K mainGlobals "past_blanks" = some (some (.ref f))) (l : K.lookup f = some ⟨oc, od, .func (PySem.W.fnOf "past_blanks" "past_blanks" (defArgs sPastBl) (defBody sPastBl) (defScope sPastBl) .none kV doc pm an cdv ct), osl⟩) (c : PySem.W.codeIn K cdv "past_blanks" = true) (k : PySem.W.keepIn K (.ref f) = true) :
    Fn1 K mg "past_blanks" sPastBl ["text", "at"] f (PySem.W.fnOf "past_blanks" "past_blanks" (defArgs sPastBl) (defBody sPastBl) (defScope sPastBl) .none kV doc pm an cdv ct) := ⟨fun_mk l c k, L2.Binds.all fun us hl => match us, hl with | [_, _], _ => rfl, PySem.W.mg_of X G a⟩
theorem mk_past_remark (X : K.In h) (G : h.Ns mainGlobals mg) {f : Addr} {oc : Value} {od an : Option Addr} {osl : Array (Option Value)} {kV doc pm cdv ct : Value} (a : PySem.W.nsIn K mainGlobals "past_remark" = some (some (.ref f))) (l : K.lookup f = some ⟨oc, od, .func (PySem.W.fnOf "past_remark" "past_remark" (defArgs sPastRe) (defBody sPastRe) (defScope sPastRe) .none kV doc pm an cdv ct), osl⟩) (c : PySem.W.codeIn K cdv "past_remark" = true) (k : PySem.W.keepIn K (.ref f) = true) :
    Fn1 K mg "past_remark" sPastRe ["text", "at"] f (PySem.W.fnOf "past_remark" "past_remark" (defArgs sPastRe) (defBody sPastRe) (defScope sPastRe) .none kV doc pm an cdv ct) := ⟨fun_mk l c k, L2.Binds.all fun us hl => match us, hl with | [_, _], _ => rfl, PySem.W.mg_of X G a⟩
theorem mk_past_letters (X : K.In h) (G : h.Ns mainGlobals mg) {f : Addr} {oc : Value} {od an : Option Addr} {osl : Array (Option Value)} {kV doc pm cdv ct : Value} (a : PySem.W.nsIn K mainGlobals "past_letters" = some (some (.ref f))) (l : K.lookup f = some ⟨oc, od, .func (PySem.W.fnOf "past_letters" "past_letters" (defArgs sPastLe) (defBody sPastLe) (defScope sPastLe) .none kV doc pm an cdv ct), osl⟩) (c : PySem.W.codeIn K cdv "past_letters" = true) (k : PySem.W.keepIn K (.ref f) = true) :
    Fn1 K mg "past_letters" sPastLe ["text", "at"] f (PySem.W.fnOf "past_letters" "past_letters" (defArgs sPastLe) (defBody sPastLe) (defScope sPastLe) .none kV doc pm an cdv ct) := ⟨fun_mk l c k, L2.Binds.all fun us hl => match us, hl with | [_, _], _ => rfl, PySem.W.mg_of X G a⟩
theorem mk_past_digits (X : K.In h) (G : h.Ns mainGlobals mg) {f : Addr} {oc : Value} {od an : Option Addr} {osl : Array (Option Value)} {kV doc pm cdv ct : Value} (a : PySem.W.nsIn K mainGlobals "past_digits" = some (some (.ref f))) (l : K.lookup f = some ⟨oc, od, .func (PySem.W.fnOf "past_digits" "past_digits" (defArgs sPastDi) (defBody sPastDi) (defScope sPastDi) .none kV doc pm an cdv ct), osl⟩) (c : PySem.W.codeIn K cdv "past_digits" = true) (k : PySem.W.keepIn K (.ref f) = true) :
    Fn1 K mg "past_digits" sPastDi ["text", "at"] f (PySem.W.fnOf "past_digits" "past_digits" (defArgs sPastDi) (defBody sPastDi) (defScope sPastDi) .none kV doc pm an cdv ct) := ⟨fun_mk l c k, L2.Binds.all fun us hl => match us, hl with | [_, _], _ => rfl, PySem.W.mg_of X G a⟩
theorem mk_past_number (X : K.In h) (G : h.Ns mainGlobals mg) {f : Addr} {oc : Value} {od an : Option Addr} {osl : Array (Option Value)} {kV doc pm cdv ct : Value} (a : PySem.W.nsIn K mainGlobals "past_number" = some (some (.ref f))) (l : K.lookup f = some ⟨oc, od, .func (PySem.W.fnOf "past_number" "past_number" (defArgs sPastNu) (defBody sPastNu) (defScope sPastNu) .none kV doc pm an cdv ct), osl⟩) (c : PySem.W.codeIn K cdv "past_number" = true) (k : PySem.W.keepIn K (.ref f) = true) :
    Fn1 K mg "past_number" sPastNu ["text", "at"] f (PySem.W.fnOf "past_number" "past_number" (defArgs sPastNu) (defBody sPastNu) (defScope sPastNu) .none kV doc pm an cdv ct) := ⟨fun_mk l c k, L2.Binds.all fun us hl => match us, hl with | [_, _], _ => rfl, PySem.W.mg_of X G a⟩
theorem mk_past_token (X : K.In h) (G : h.Ns mainGlobals mg) {f : Addr} {oc : Value} {od an : Option Addr} {osl : Array (Option Value)} {kV doc pm cdv ct : Value} (a : PySem.W.nsIn K mainGlobals "past_token" = some (some (.ref f))) (l : K.lookup f = some ⟨oc, od, .func (PySem.W.fnOf "past_token" "past_token" (defArgs sPastTo) (defBody sPastTo) (defScope sPastTo) .none kV doc pm an cdv ct), osl⟩) (c : PySem.W.codeIn K cdv "past_token" = true) (k : PySem.W.keepIn K (.ref f) = true) :
    Fn1 K mg "past_token" sPastTo ["text", "at"] f (PySem.W.fnOf "past_token" "past_token" (defArgs sPastTo) (defBody sPastTo) (defScope sPastTo) .none kV doc pm an cdv ct) := ⟨fun_mk l c k, L2.Binds.all fun us hl => match us, hl with | [_, _], _ => rfl, PySem.W.mg_of X G a⟩
theorem mk_kind_of (X : K.In h) (G : h.Ns mainGlobals mg) {f : Addr} {oc : Value} {od an : Option Addr} {osl : Array (Option Value)} {kV doc pm cdv ct : Value} (a : PySem.W.nsIn K mainGlobals "kind_of" = some (some (.ref f))) (l : K.lookup f = some ⟨oc, od, .func (PySem.W.fnOf "kind_of" "kind_of" (defArgs sKindOf) (defBody sKindOf) (defScope sKindOf) .none kV doc pm an cdv ct), osl⟩) (c : PySem.W.codeIn K cdv "kind_of" = true) (k : PySem.W.keepIn K (.ref f) = true) :
    Fn1 K mg "kind_of" sKindOf ["part"] f (PySem.W.fnOf "kind_of" "kind_of" (defArgs sKindOf) (defBody sKindOf) (defScope sKindOf) .none kV doc pm an cdv ct) := ⟨fun_mk l c k, L2.Binds.all fun us hl => match us, hl with | [_], _ => rfl, PySem.W.mg_of X G a⟩
theorem mk_tokens_of (X : K.In h) (G : h.Ns mainGlobals mg) {f : Addr} {oc : Value} {od an : Option Addr} {osl : Array (Option Value)} {kV doc pm cdv ct : Value} (a : PySem.W.nsIn K mainGlobals "tokens_of" = some (some (.ref f))) (l : K.lookup f = some ⟨oc, od, .func (PySem.W.fnOf "tokens_of" "tokens_of" (defArgs sToksOf) (defBody sToksOf) (defScope sToksOf) .none kV doc pm an cdv ct), osl⟩) (c : PySem.W.codeIn K cdv "tokens_of" = true) (k : PySem.W.keepIn K (.ref f) = true) :
    Fn1 K mg "tokens_of" sToksOf ["t"] f (PySem.W.fnOf "tokens_of" "tokens_of" (defArgs sToksOf) (defBody sToksOf) (defScope sToksOf) .none kV doc pm an cdv ct) := ⟨fun_mk l c k, L2.Binds.all fun us hl => match us, hl with | [_], _ => rfl, PySem.W.mg_of X G a⟩
theorem mt_Reader_init {f : Addr} {oc : Value} {od an : Option Addr} {osl : Array (Option Value)} {kV doc pm cdv ct : Value} {C : Addr} (a : PySem.W.findIn K (.ref C) "__init__" = some (some (.ref f))) (i : PySem.W.isFn K (.ref f) = true) (l : K.lookup f = some ⟨oc, od, .func (PySem.W.fnOf "__init__" "Reader.__init__" (defArgs sRdI) (defBody sRdI) (defScope sRdI) .none kV doc pm an cdv ct), osl⟩) (c : PySem.W.codeIn K cdv "Reader.__init__" = true) (k : PySem.W.keepIn K (.ref f) = true) :
    Mt1 K C "__init__" "Reader.__init__" sRdI ["self", "tokens"] f (PySem.W.fnOf "__init__" "Reader.__init__" (defArgs sRdI) (defBody sRdI) (defScope sRdI) .none kV doc pm an cdv ct) := ⟨fun_mk l c k, L2.Binds.all fun us hl => match us, hl with | [_, _], _ => rfl, ⟨a, i, k⟩⟩
theorem mt_Reader_here {f : Addr} {oc : Value} {od an : Option Addr} {osl : Array (Option Value)} {kV doc pm cdv ct : Value} {C : Addr} (a : PySem.W.findIn K (.ref C) "here" = some (some (.ref f))) (i : PySem.W.isFn K (.ref f) = true) (l : K.lookup f = some ⟨oc, od, .func (PySem.W.fnOf "here" "Reader.here" (defArgs sHere) (defBody sHere) (defScope sHere) .none kV doc pm an cdv ct), osl⟩) (c : PySem.W.codeIn K cdv "Reader.here" = true) (k : PySem.W.keepIn K (.ref f) = true) :
    Mt1 K C "here" "Reader.here" sHere ["self"] f (PySem.W.fnOf "here" "Reader.here" (defArgs sHere) (defBody sHere) (defScope sHere) .none kV doc pm an cdv ct) := ⟨fun_mk l c k, L2.Binds.all fun us hl => match us, hl with | [_], _ => rfl, ⟨a, i, k⟩⟩
theorem mt_Reader_refuse {f : Addr} {oc : Value} {od an : Option Addr} {osl : Array (Option Value)} {kV doc pm cdv ct : Value} {C : Addr} (a : PySem.W.findIn K (.ref C) "refuse" = some (some (.ref f))) (i : PySem.W.isFn K (.ref f) = true) (l : K.lookup f = some ⟨oc, od, .func (PySem.W.fnOf "refuse" "Reader.refuse" (defArgs sRefuse) (defBody sRefuse) (defScope sRefuse) .none kV doc pm an cdv ct), osl⟩) (c : PySem.W.codeIn K cdv "Reader.refuse" = true) (k : PySem.W.keepIn K (.ref f) = true) :
    Mt1 K C "refuse" "Reader.refuse" sRefuse ["self"] f (PySem.W.fnOf "refuse" "Reader.refuse" (defArgs sRefuse) (defBody sRefuse) (defScope sRefuse) .none kV doc pm an cdv ct) := ⟨fun_mk l c k, L2.Binds.all fun us hl => match us, hl with | [_], _ => rfl, ⟨a, i, k⟩⟩
theorem mt_Reader_take {f : Addr} {oc : Value} {od an : Option Addr} {osl : Array (Option Value)} {kV doc pm cdv ct : Value} {C : Addr} (a : PySem.W.findIn K (.ref C) "take" = some (some (.ref f))) (i : PySem.W.isFn K (.ref f) = true) (l : K.lookup f = some ⟨oc, od, .func (PySem.W.fnOf "take" "Reader.take" (defArgs sTake) (defBody sTake) (defScope sTake) .none kV doc pm an cdv ct), osl⟩) (c : PySem.W.codeIn K cdv "Reader.take" = true) (k : PySem.W.keepIn K (.ref f) = true) :
    Mt1 K C "take" "Reader.take" sTake ["self", "kind"] f (PySem.W.fnOf "take" "Reader.take" (defArgs sTake) (defBody sTake) (defScope sTake) .none kV doc pm an cdv ct) := ⟨fun_mk l c k, L2.Binds.all fun us hl => match us, hl with | [_, _], _ => rfl, ⟨a, i, k⟩⟩
theorem mt_Reader_take_names {f : Addr} {oc : Value} {od an : Option Addr} {osl : Array (Option Value)} {kV doc pm cdv ct : Value} {C : Addr} (a : PySem.W.findIn K (.ref C) "take_names" = some (some (.ref f))) (i : PySem.W.isFn K (.ref f) = true) (l : K.lookup f = some ⟨oc, od, .func (PySem.W.fnOf "take_names" "Reader.take_names" (defArgs sTakeN) (defBody sTakeN) (defScope sTakeN) .none kV doc pm an cdv ct), osl⟩) (c : PySem.W.codeIn K cdv "Reader.take_names" = true) (k : PySem.W.keepIn K (.ref f) = true) :
    Mt1 K C "take_names" "Reader.take_names" sTakeN ["self", "count"] f (PySem.W.fnOf "take_names" "Reader.take_names" (defArgs sTakeN) (defBody sTakeN) (defScope sTakeN) .none kV doc pm an cdv ct) := ⟨fun_mk l c k, L2.Binds.all fun us hl => match us, hl with | [_, _], _ => rfl, ⟨a, i, k⟩⟩
theorem mk_plain_number (X : K.In h) (G : h.Ns mainGlobals mg) {f : Addr} {oc : Value} {od an : Option Addr} {osl : Array (Option Value)} {kV doc pm cdv ct : Value} (a : PySem.W.nsIn K mainGlobals "plain_number" = some (some (.ref f))) (l : K.lookup f = some ⟨oc, od, .func (PySem.W.fnOf "plain_number" "plain_number" (defArgs sPlain) (defBody sPlain) (defScope sPlain) .none kV doc pm an cdv ct), osl⟩) (c : PySem.W.codeIn K cdv "plain_number" = true) (k : PySem.W.keepIn K (.ref f) = true) :
    Fn1 K mg "plain_number" sPlain ["text"] f (PySem.W.fnOf "plain_number" "plain_number" (defArgs sPlain) (defBody sPlain) (defScope sPlain) .none kV doc pm an cdv ct) := ⟨fun_mk l c k, L2.Binds.all fun us hl => match us, hl with | [_], _ => rfl, PySem.W.mg_of X G a⟩
theorem mk_read_sum (X : K.In h) (G : h.Ns mainGlobals mg) {f : Addr} {oc : Value} {od an : Option Addr} {osl : Array (Option Value)} {kV doc pm cdv ct : Value} (a : PySem.W.nsIn K mainGlobals "read_sum" = some (some (.ref f))) (l : K.lookup f = some ⟨oc, od, .func (PySem.W.fnOf "read_sum" "read_sum" (defArgs sSum) (defBody sSum) (defScope sSum) .none kV doc pm an cdv ct), osl⟩) (c : PySem.W.codeIn K cdv "read_sum" = true) (k : PySem.W.keepIn K (.ref f) = true) :
    Fn1 K mg "read_sum" sSum ["reader", "depth", "steps"] f (PySem.W.fnOf "read_sum" "read_sum" (defArgs sSum) (defBody sSum) (defScope sSum) .none kV doc pm an cdv ct) := ⟨fun_mk l c k, L2.Binds.all fun us hl => match us, hl with | [_, _, _], _ => rfl, PySem.W.mg_of X G a⟩
theorem mk_read_product (X : K.In h) (G : h.Ns mainGlobals mg) {f : Addr} {oc : Value} {od an : Option Addr} {osl : Array (Option Value)} {kV doc pm cdv ct : Value} (a : PySem.W.nsIn K mainGlobals "read_product" = some (some (.ref f))) (l : K.lookup f = some ⟨oc, od, .func (PySem.W.fnOf "read_product" "read_product" (defArgs sProd) (defBody sProd) (defScope sProd) .none kV doc pm an cdv ct), osl⟩) (c : PySem.W.codeIn K cdv "read_product" = true) (k : PySem.W.keepIn K (.ref f) = true) :
    Fn1 K mg "read_product" sProd ["reader", "depth", "steps"] f (PySem.W.fnOf "read_product" "read_product" (defArgs sProd) (defBody sProd) (defScope sProd) .none kV doc pm an cdv ct) := ⟨fun_mk l c k, L2.Binds.all fun us hl => match us, hl with | [_, _, _], _ => rfl, PySem.W.mg_of X G a⟩
theorem mk_read_factor (X : K.In h) (G : h.Ns mainGlobals mg) {f : Addr} {oc : Value} {od an : Option Addr} {osl : Array (Option Value)} {kV doc pm cdv ct : Value} (a : PySem.W.nsIn K mainGlobals "read_factor" = some (some (.ref f))) (l : K.lookup f = some ⟨oc, od, .func (PySem.W.fnOf "read_factor" "read_factor" (defArgs sFac) (defBody sFac) (defScope sFac) .none kV doc pm an cdv ct), osl⟩) (c : PySem.W.codeIn K cdv "read_factor" = true) (k : PySem.W.keepIn K (.ref f) = true) :
    Fn1 K mg "read_factor" sFac ["reader", "depth", "steps"] f (PySem.W.fnOf "read_factor" "read_factor" (defArgs sFac) (defBody sFac) (defScope sFac) .none kV doc pm an cdv ct) := ⟨fun_mk l c k, L2.Binds.all fun us hl => match us, hl with | [_, _, _], _ => rfl, PySem.W.mg_of X G a⟩
theorem mk_read_place (X : K.In h) (G : h.Ns mainGlobals mg) {f : Addr} {oc : Value} {od an : Option Addr} {osl : Array (Option Value)} {kV doc pm cdv ct : Value} (a : PySem.W.nsIn K mainGlobals "read_place" = some (some (.ref f))) (l : K.lookup f = some ⟨oc, od, .func (PySem.W.fnOf "read_place" "read_place" (defArgs sPl) (defBody sPl) (defScope sPl) .none kV doc pm an cdv ct), osl⟩) (c : PySem.W.codeIn K cdv "read_place" = true) (k : PySem.W.keepIn K (.ref f) = true) :
    Fn1 K mg "read_place" sPl ["reader", "depth", "steps"] f (PySem.W.fnOf "read_place" "read_place" (defArgs sPl) (defBody sPl) (defScope sPl) .none kV doc pm an cdv ct) := ⟨fun_mk l c k, L2.Binds.all fun us hl => match us, hl with | [_, _, _], _ => rfl, PySem.W.mg_of X G a⟩
theorem mk_read_parts (X : K.In h) (G : h.Ns mainGlobals mg) {f : Addr} {oc : Value} {od an : Option Addr} {osl : Array (Option Value)} {kV doc pm cdv ct : Value} (a : PySem.W.nsIn K mainGlobals "read_parts" = some (some (.ref f))) (l : K.lookup f = some ⟨oc, od, .func (PySem.W.fnOf "read_parts" "read_parts" (defArgs sParts) (defBody sParts) (defScope sParts) .none kV doc pm an cdv ct), osl⟩) (c : PySem.W.codeIn K cdv "read_parts" = true) (k : PySem.W.keepIn K (.ref f) = true) :
    Fn1 K mg "read_parts" sParts ["reader", "what", "depth", "steps"] f (PySem.W.fnOf "read_parts" "read_parts" (defArgs sParts) (defBody sParts) (defScope sParts) .none kV doc pm an cdv ct) := ⟨fun_mk l c k, L2.Binds.all fun us hl => match us, hl with | [_, _, _, _], _ => rfl, PySem.W.mg_of X G a⟩
theorem mk_read_meaning (X : K.In h) (G : h.Ns mainGlobals mg) {f : Addr} {oc : Value} {od an : Option Addr} {osl : Array (Option Value)} {kV doc pm cdv ct : Value} (a : PySem.W.nsIn K mainGlobals "read_meaning" = some (some (.ref f))) (l : K.lookup f = some ⟨oc, od, .func (PySem.W.fnOf "read_meaning" "read_meaning" (defArgs sMean) (defBody sMean) (defScope sMean) .none kV doc pm an cdv ct), osl⟩) (c : PySem.W.codeIn K cdv "read_meaning" = true) (k : PySem.W.keepIn K (.ref f) = true) :
    Fn1 K mg "read_meaning" sMean ["reader", "word"] f (PySem.W.fnOf "read_meaning" "read_meaning" (defArgs sMean) (defBody sMean) (defScope sMean) .none kV doc pm an cdv ct) := ⟨fun_mk l c k, L2.Binds.all fun us hl => match us, hl with | [_, _], _ => rfl, PySem.W.mg_of X G a⟩
theorem mk_read_corners (X : K.In h) (G : h.Ns mainGlobals mg) {f : Addr} {oc : Value} {od an : Option Addr} {osl : Array (Option Value)} {kV doc pm cdv ct : Value} (a : PySem.W.nsIn K mainGlobals "read_corners" = some (some (.ref f))) (l : K.lookup f = some ⟨oc, od, .func (PySem.W.fnOf "read_corners" "read_corners" (defArgs sCorn) (defBody sCorn) (defScope sCorn) .none kV doc pm an cdv ct), osl⟩) (c : PySem.W.codeIn K cdv "read_corners" = true) (k : PySem.W.keepIn K (.ref f) = true) :
    Fn1 K mg "read_corners" sCorn ["reader"] f (PySem.W.fnOf "read_corners" "read_corners" (defArgs sCorn) (defBody sCorn) (defScope sCorn) .none kV doc pm an cdv ct) := ⟨fun_mk l c k, L2.Binds.all fun us hl => match us, hl with | [_], _ => rfl, PySem.W.mg_of X G a⟩
theorem mk_read_piece (X : K.In h) (G : h.Ns mainGlobals mg) {f : Addr} {oc : Value} {od an : Option Addr} {osl : Array (Option Value)} {kV doc pm cdv ct : Value} (a : PySem.W.nsIn K mainGlobals "read_piece" = some (some (.ref f))) (l : K.lookup f = some ⟨oc, od, .func (PySem.W.fnOf "read_piece" "read_piece" (defArgs sPiec) (defBody sPiec) (defScope sPiec) .none kV doc pm an cdv ct), osl⟩) (c : PySem.W.codeIn K cdv "read_piece" = true) (k : PySem.W.keepIn K (.ref f) = true) :
    Fn1 K mg "read_piece" sPiec ["reader"] f (PySem.W.fnOf "read_piece" "read_piece" (defArgs sPiec) (defBody sPiec) (defScope sPiec) .none kV doc pm an cdv ct) := ⟨fun_mk l c k, L2.Binds.all fun us hl => match us, hl with | [_], _ => rfl, PySem.W.mg_of X G a⟩
theorem mk_read_seam (X : K.In h) (G : h.Ns mainGlobals mg) {f : Addr} {oc : Value} {od an : Option Addr} {osl : Array (Option Value)} {kV doc pm cdv ct : Value} (a : PySem.W.nsIn K mainGlobals "read_seam" = some (some (.ref f))) (l : K.lookup f = some ⟨oc, od, .func (PySem.W.fnOf "read_seam" "read_seam" (defArgs sSeam) (defBody sSeam) (defScope sSeam) .none kV doc pm an cdv ct), osl⟩) (c : PySem.W.codeIn K cdv "read_seam" = true) (k : PySem.W.keepIn K (.ref f) = true) :
    Fn1 K mg "read_seam" sSeam ["reader"] f (PySem.W.fnOf "read_seam" "read_seam" (defArgs sSeam) (defBody sSeam) (defScope sSeam) .none kV doc pm an cdv ct) := ⟨fun_mk l c k, L2.Binds.all fun us hl => match us, hl with | [_], _ => rfl, PySem.W.mg_of X G a⟩
theorem mk_read_statement (X : K.In h) (G : h.Ns mainGlobals mg) {f : Addr} {oc : Value} {od an : Option Addr} {osl : Array (Option Value)} {kV doc pm cdv ct : Value} (a : PySem.W.nsIn K mainGlobals "read_statement" = some (some (.ref f))) (l : K.lookup f = some ⟨oc, od, .func (PySem.W.fnOf "read_statement" "read_statement" (defArgs sStat) (defBody sStat) (defScope sStat) .none kV doc pm an cdv ct), osl⟩) (c : PySem.W.codeIn K cdv "read_statement" = true) (k : PySem.W.keepIn K (.ref f) = true) :
    Fn1 K mg "read_statement" sStat ["reader"] f (PySem.W.fnOf "read_statement" "read_statement" (defArgs sStat) (defBody sStat) (defScope sStat) .none kV doc pm an cdv ct) := ⟨fun_mk l c k, L2.Binds.all fun us hl => match us, hl with | [_], _ => rfl, PySem.W.mg_of X G a⟩
theorem mk_read_draft (X : K.In h) (G : h.Ns mainGlobals mg) {f : Addr} {oc : Value} {od an : Option Addr} {osl : Array (Option Value)} {kV doc pm cdv ct : Value} (a : PySem.W.nsIn K mainGlobals "read_draft" = some (some (.ref f))) (l : K.lookup f = some ⟨oc, od, .func (PySem.W.fnOf "read_draft" "read_draft" (defArgs sDraft) (defBody sDraft) (defScope sDraft) .none kV doc pm an cdv ct), osl⟩) (c : PySem.W.codeIn K cdv "read_draft" = true) (k : PySem.W.keepIn K (.ref f) = true) :
    Fn1 K mg "read_draft" sDraft ["t"] f (PySem.W.fnOf "read_draft" "read_draft" (defArgs sDraft) (defBody sDraft) (defScope sDraft) .none kV doc pm an cdv ct) := ⟨fun_mk l c k, L2.Binds.all fun us hl => match us, hl with | [_], _ => rfl, PySem.W.mg_of X G a⟩
theorem mk_at_least (X : K.In h) (G : h.Ns mainGlobals mg) {f : Addr} {oc : Value} {od an : Option Addr} {osl : Array (Option Value)} {kV doc pm cdv ct : Value} (a : PySem.W.nsIn K mainGlobals "at_least" = some (some (.ref f))) (l : K.lookup f = some ⟨oc, od, .func (PySem.W.fnOf "at_least" "at_least" (defArgs sAtL) (defBody sAtL) (defScope sAtL) .none kV doc pm an cdv ct), osl⟩) (c : PySem.W.codeIn K cdv "at_least" = true) (k : PySem.W.keepIn K (.ref f) = true) :
    Fn1 K mg "at_least" sAtL ["firmness", "part"] f (PySem.W.fnOf "at_least" "at_least" (defArgs sAtL) (defBody sAtL) (defScope sAtL) .none kV doc pm an cdv ct) := ⟨fun_mk l c k, L2.Binds.all fun us hl => match us, hl with | [_, _], _ => rfl, PySem.W.mg_of X G a⟩
theorem mk_with_sign (X : K.In h) (G : h.Ns mainGlobals mg) {f : Addr} {oc : Value} {od an : Option Addr} {osl : Array (Option Value)} {kV doc pm cdv ct : Value} (a : PySem.W.nsIn K mainGlobals "with_sign" = some (some (.ref f))) (l : K.lookup f = some ⟨oc, od, .func (PySem.W.fnOf "with_sign" "with_sign" (defArgs sSignW) (defBody sSignW) (defScope sSignW) .none kV doc pm an cdv ct), osl⟩) (c : PySem.W.codeIn K cdv "with_sign" = true) (k : PySem.W.keepIn K (.ref f) = true) :
    Fn1 K mg "with_sign" sSignW ["sign", "left", "right"] f (PySem.W.fnOf "with_sign" "with_sign" (defArgs sSignW) (defBody sSignW) (defScope sSignW) .none kV doc pm an cdv ct) := ⟨fun_mk l c k, L2.Binds.all fun us hl => match us, hl with | [_, _, _], _ => rfl, PySem.W.mg_of X G a⟩
theorem mk_with_parts (X : K.In h) (G : h.Ns mainGlobals mg) {f : Addr} {oc : Value} {od an : Option Addr} {osl : Array (Option Value)} {kV doc pm cdv ct : Value} (a : PySem.W.nsIn K mainGlobals "with_parts" = some (some (.ref f))) (l : K.lookup f = some ⟨oc, od, .func (PySem.W.fnOf "with_parts" "with_parts" (defArgs sWith) (defBody sWith) (defScope sWith) .none kV doc pm an cdv ct), osl⟩) (c : PySem.W.codeIn K cdv "with_parts" = true) (k : PySem.W.keepIn K (.ref f) = true) :
    Fn1 K mg "with_parts" sWith ["what", "parts"] f (PySem.W.fnOf "with_parts" "with_parts" (defArgs sWith) (defBody sWith) (defScope sWith) .none kV doc pm an cdv ct) := ⟨fun_mk l c k, L2.Binds.all fun us hl => match us, hl with | [_, _], _ => rfl, PySem.W.mg_of X G a⟩
theorem mk_tokens_of_steps (X : K.In h) (G : h.Ns mainGlobals mg) {f : Addr} {oc : Value} {od an : Option Addr} {osl : Array (Option Value)} {kV doc pm cdv ct : Value} (a : PySem.W.nsIn K mainGlobals "tokens_of_steps" = some (some (.ref f))) (l : K.lookup f = some ⟨oc, od, .func (PySem.W.fnOf "tokens_of_steps" "tokens_of_steps" (defArgs sStepsW) (defBody sStepsW) (defScope sStepsW) .none kV doc pm an cdv ct), osl⟩) (c : PySem.W.codeIn K cdv "tokens_of_steps" = true) (k : PySem.W.keepIn K (.ref f) = true) :
    Fn1 K mg "tokens_of_steps" sStepsW ["steps"] f (PySem.W.fnOf "tokens_of_steps" "tokens_of_steps" (defArgs sStepsW) (defBody sStepsW) (defScope sStepsW) .none kV doc pm an cdv ct) := ⟨fun_mk l c k, L2.Binds.all fun us hl => match us, hl with | [_], _ => rfl, PySem.W.mg_of X G a⟩
theorem mk_tokens_of_piece (X : K.In h) (G : h.Ns mainGlobals mg) {f : Addr} {oc : Value} {od an : Option Addr} {osl : Array (Option Value)} {kV doc pm cdv ct : Value} (a : PySem.W.nsIn K mainGlobals "tokens_of_piece" = some (some (.ref f))) (l : K.lookup f = some ⟨oc, od, .func (PySem.W.fnOf "tokens_of_piece" "tokens_of_piece" (defArgs sPieceW) (defBody sPieceW) (defScope sPieceW) .none kV doc pm an cdv ct), osl⟩) (c : PySem.W.codeIn K cdv "tokens_of_piece" = true) (k : PySem.W.keepIn K (.ref f) = true) :
    Fn1 K mg "tokens_of_piece" sPieceW ["name", "corners", "grain"] f (PySem.W.fnOf "tokens_of_piece" "tokens_of_piece" (defArgs sPieceW) (defBody sPieceW) (defScope sPieceW) .none kV doc pm an cdv ct) := ⟨fun_mk l c k, L2.Binds.all fun us hl => match us, hl with | [_, _, _], _ => rfl, PySem.W.mg_of X G a⟩
theorem mk_tokens_of_statement (X : K.In h) (G : h.Ns mainGlobals mg) {f : Addr} {oc : Value} {od an : Option Addr} {osl : Array (Option Value)} {kV doc pm cdv ct : Value} (a : PySem.W.nsIn K mainGlobals "tokens_of_statement" = some (some (.ref f))) (l : K.lookup f = some ⟨oc, od, .func (PySem.W.fnOf "tokens_of_statement" "tokens_of_statement" (defArgs sStW) (defBody sStW) (defScope sStW) .none kV doc pm an cdv ct), osl⟩) (c : PySem.W.codeIn K cdv "tokens_of_statement" = true) (k : PySem.W.keepIn K (.ref f) = true) :
    Fn1 K mg "tokens_of_statement" sStW ["statement"] f (PySem.W.fnOf "tokens_of_statement" "tokens_of_statement" (defArgs sStW) (defBody sStW) (defScope sStW) .none kV doc pm an cdv ct) := ⟨fun_mk l c k, L2.Binds.all fun us hl => match us, hl with | [_], _ => rfl, PySem.W.mg_of X G a⟩
theorem mk_stand_apart (X : K.In h) (G : h.Ns mainGlobals mg) {f : Addr} {oc : Value} {od an : Option Addr} {osl : Array (Option Value)} {kV doc pm cdv ct : Value} (a : PySem.W.nsIn K mainGlobals "stand_apart" = some (some (.ref f))) (l : K.lookup f = some ⟨oc, od, .func (PySem.W.fnOf "stand_apart" "stand_apart" (defArgs sApart) (defBody sApart) (defScope sApart) .none kV doc pm an cdv ct), osl⟩) (c : PySem.W.codeIn K cdv "stand_apart" = true) (k : PySem.W.keepIn K (.ref f) = true) :
    Fn1 K mg "stand_apart" sApart ["left", "right"] f (PySem.W.fnOf "stand_apart" "stand_apart" (defArgs sApart) (defBody sApart) (defScope sApart) .none kV doc pm an cdv ct) := ⟨fun_mk l c k, L2.Binds.all fun us hl => match us, hl with | [_, _], _ => rfl, PySem.W.mg_of X G a⟩
theorem mk_text_of_tokens (X : K.In h) (G : h.Ns mainGlobals mg) {f : Addr} {oc : Value} {od an : Option Addr} {osl : Array (Option Value)} {kV doc pm cdv ct : Value} (a : PySem.W.nsIn K mainGlobals "text_of_tokens" = some (some (.ref f))) (l : K.lookup f = some ⟨oc, od, .func (PySem.W.fnOf "text_of_tokens" "text_of_tokens" (defArgs sTextW) (defBody sTextW) (defScope sTextW) .none kV doc pm an cdv ct), osl⟩) (c : PySem.W.codeIn K cdv "text_of_tokens" = true) (k : PySem.W.keepIn K (.ref f) = true) :
    Fn1 K mg "text_of_tokens" sTextW ["tokens"] f (PySem.W.fnOf "text_of_tokens" "text_of_tokens" (defArgs sTextW) (defBody sTextW) (defScope sTextW) .none kV doc pm an cdv ct) := ⟨fun_mk l c k, L2.Binds.all fun us hl => match us, hl with | [_], _ => rfl, PySem.W.mg_of X G a⟩
theorem mk_printed (X : K.In h) (G : h.Ns mainGlobals mg) {f : Addr} {oc : Value} {od an : Option Addr} {osl : Array (Option Value)} {kV doc pm cdv ct : Value} (a : PySem.W.nsIn K mainGlobals "printed" = some (some (.ref f))) (l : K.lookup f = some ⟨oc, od, .func (PySem.W.fnOf "printed" "printed" (defArgs sPrintd) (defBody sPrintd) (defScope sPrintd) .none kV doc pm an cdv ct), osl⟩) (c : PySem.W.codeIn K cdv "printed" = true) (k : PySem.W.keepIn K (.ref f) = true) :
    Fn1 K mg "printed" sPrintd ["statements"] f (PySem.W.fnOf "printed" "printed" (defArgs sPrintd) (defBody sPrintd) (defScope sPrintd) .none kV doc pm an cdv ct) := ⟨fun_mk l c k, L2.Binds.all fun us hl => match us, hl with | [_], _ => rfl, PySem.W.mg_of X G a⟩
theorem mk_answer (X : K.In h) (G : h.Ns mainGlobals mg) {f : Addr} {oc : Value} {od an : Option Addr} {osl : Array (Option Value)} {kV doc pm cdv ct : Value} (a : PySem.W.nsIn K mainGlobals "answer" = some (some (.ref f))) (l : K.lookup f = some ⟨oc, od, .func (PySem.W.fnOf "answer" "answer" (defArgs sAnsw) (defBody sAnsw) (defScope sAnsw) .none kV doc pm an cdv ct), osl⟩) (c : PySem.W.codeIn K cdv "answer" = true) (k : PySem.W.keepIn K (.ref f) = true) :
    Fn1 K mg "answer" sAnsw ["number", "told", "signed"] f (PySem.W.fnOf "answer" "answer" (defArgs sAnsw) (defBody sAnsw) (defScope sAnsw) .none kV doc pm an cdv ct) := ⟨fun_mk l c k, L2.Binds.all fun us hl => match us, hl with | [_, _, _], _ => rfl, PySem.W.mg_of X G a⟩
theorem mk_check_lengths (X : K.In h) (G : h.Ns mainGlobals mg) {f : Addr} {oc : Value} {od an : Option Addr} {osl : Array (Option Value)} {kV doc pm cdv ct : Value} (a : PySem.W.nsIn K mainGlobals "check_lengths" = some (some (.ref f))) (l : K.lookup f = some ⟨oc, od, .func (PySem.W.fnOf "check_lengths" "check_lengths" (defArgs sCheck) (defBody sCheck) (defScope sCheck) .none kV doc pm an cdv ct), osl⟩) (c : PySem.W.codeIn K cdv "check_lengths" = true) (k : PySem.W.keepIn K (.ref f) = true) :
    Fn1 K mg "check_lengths" sCheck ["texts"] f (PySem.W.fnOf "check_lengths" "check_lengths" (defArgs sCheck) (defBody sCheck) (defScope sCheck) .none kV doc pm an cdv ct) := ⟨fun_mk l c k, L2.Binds.all fun us hl => match us, hl with | [_], _ => rfl, PySem.W.mg_of X G a⟩
theorem mk_print_of (X : K.In h) (G : h.Ns mainGlobals mg) {f : Addr} {oc : Value} {od an : Option Addr} {osl : Array (Option Value)} {kV doc pm cdv ct : Value} (a : PySem.W.nsIn K mainGlobals "print_of" = some (some (.ref f))) (l : K.lookup f = some ⟨oc, od, .func (PySem.W.fnOf "print_of" "print_of" (defArgs sPrOf) (defBody sPrOf) (defScope sPrOf) .none kV doc pm an cdv ct), osl⟩) (c : PySem.W.codeIn K cdv "print_of" = true) (k : PySem.W.keepIn K (.ref f) = true) :
    Fn1 K mg "print_of" sPrOf ["t"] f (PySem.W.fnOf "print_of" "print_of" (defArgs sPrOf) (defBody sPrOf) (defScope sPrOf) .none kV doc pm an cdv ct) := ⟨fun_mk l c k, L2.Binds.all fun us hl => match us, hl with | [_], _ => rfl, PySem.W.mg_of X G a⟩
end
end SDP
set_option Elab.async false
set_option linter.all false
set_option maxRecDepth 100000
set_option maxHeartbeats 4000000
/-! # Errors together; bytes handed in -/
namespace SDP
open PySem PySem.Spec PyProof.Rows L2 SDX SD TL
open SeamNum (Bytes)
section
variable {w : World} {K : PySem.W.Frag} {h : Heap} {mg : Str → Option Value}
theorem mk_refc {cRef fRef cT fTo : Addr} {dRef dTo : FuncData} {mc : Value} (X : K.In h) (G : h.Ns mainGlobals mg)
    (eR : ErrC K mg "Refusal" cRef fRef ∧ L2.Fun K "__init__" "Refusal.__init__" sRefI fRef dRef ∧ L2.Binds K dRef ["self", "number", "signed"] []) (eT : ErrC K mg "TooLong" cT fTo ∧ L2.Fun K "__init__" "TooLong.__init__" sTooI fTo dTo ∧ L2.Binds K dTo ["self"] [])
    (r1 : PySem.W.readsIn K cRef mc = true) (r2 : PySem.W.specialIn K (.ref cRef) "__getattribute__" = some (some (.builtin "type.__getattribute__"))) (r3 : PySem.W.findCls K (.ref cRef) mc "__init__" = some (.val (.ref fRef)))
    (zE : PySem.W.nsIn K mainGlobals "Exception" = some none) (vE : PySem.W.findCls K (.type "Exception") (.type "type") "__init__" = some (.val (.builtin "Exception.__init__"))) (xT : PySem.W.exmOne K (.ref cT) (.ref cRef) = some true) : RefC K mg ⟨cRef, fRef, dRef, mc, cT, fTo, dTo⟩ :=
  { ref := eR.1, FRef := eR.2.1, bRef := eR.2.2, cr := ⟨r1, r2⟩, cv := r3, mE := PySem.W.mg_none_of X G zE, vE := vE, too := eT.1, FT := eT.2.1, bT := eT.2.2, xT := xT }
end
/-! ### bytes handed in -/
theorem text_is (b : Bytes) : DraftsNeutral.text (b.map fun c => (c.toNat : Int)) = b := by
  unfold DraftsNeutral.text DraftsNeutral.nats
  rw [List.map_map, List.map_map]
  conv => rhs; rw [← List.map_id b]
  refine List.map_congr_left fun c _ => ?_
  show UInt8.ofNat ((c.toNat : Int)).toNat = c
  rw [Int.toNat_natCast]
  exact UInt8.ofNat_toNat
theorem bytes_are {ns : List Int} (h : ∀ n ∈ ns, 0 ≤ n ∧ n ≤ 255) : ns = (DraftsNeutral.text ns).map fun c => (c.toNat : Int) := by
  unfold DraftsNeutral.text DraftsNeutral.nats
  rw [List.map_map, List.map_map]
  conv => lhs; rw [← List.map_id ns]
  refine List.map_congr_left fun n hn => ?_
  obtain ⟨h1, h2⟩ := h n hn
  show n = ((UInt8.ofNat n.toNat).toNat : Int)
  rw [UInt8.toNat_ofNat']
  omega
/-- a list of bytes that the codec lets in -/
theorem bytes_in {K : PySem.W.Frag} {H : Hp} {p : Addr} {ns : List Int} (hs : SqL K H p (ns.map V.int)) (hw : PySem.W.Codec.inList 0 4200 (PySem.W.Codec.inInt 0 255) ns = true) : ∃ b : Bytes, ns = b.map (fun c => (c.toNat : Int)) ∧ BytesL K H p b ∧ b.length ≤ 4200 := by
  unfold PySem.W.Codec.inList PySem.W.Codec.inLen PySem.W.Codec.inNat PySem.W.Codec.inInt at hw
  simp only [Bool.and_eq_true, decide_eq_true_eq, List.all_eq_true] at hw
  have hb : ns = (DraftsNeutral.text ns).map fun c => (c.toNat : Int) := bytes_are fun n hn => by
    have q := hw.2 n hn
    omega
  have hl : (DraftsNeutral.text ns).length = ns.length := by
    conv => rhs; rw [hb]
    rw [List.length_map]
  refine ⟨DraftsNeutral.text ns, hb, ?_, by rw [hl]; omega⟩
  show SqL K H p ((DraftsNeutral.text ns).map fun c => V.int (c.toNat : Int))
  have e : ((DraftsNeutral.text ns).map fun c => V.int (c.toNat : Int)) = ns.map V.int := by
    conv => rhs; rw [hb]
    rw [List.map_map]
    rfl
  rw [e]
  exact hs
theorem looked_long {l : List Bytes} {b : Bytes} (hb : b ∈ l) (h : 4096 < b.length) (a : Unit → Drafts.Answer) : Drafts.looked l a = SeamNum.says (-1) := by
  unfold Drafts.looked
  rw [if_pos]
  rw [List.any_eq_true]
  exact ⟨b, hb, by simp [Drafts.TEXT, h]⟩
theorem looked_short {l : List Bytes} (h : ∀ b ∈ l, b.length ≤ 4096) (a : Unit → Drafts.Answer) : Drafts.looked l a = a () := by
  unfold Drafts.looked
  rw [if_neg]
  rw [List.any_eq_true]
  rintro ⟨b, hb, z⟩
  have := h b hb
  have := of_decide_eq_true z
  simp [Drafts.TEXT] at this
  omega
end SDP
namespace SDP
open PySem PySem.Spec PyProof.Rows L2 SDX SD TL
/-- what holds of one written part, of one class -/
structure Tied (K : PySem.W.Frag) (T : Addr) (Z : Prop) : Prop where
  is : Z
section
variable {w : World} {K : PySem.W.Frag} {h : Heap} {mg : Str → Option Value}
/-- of one written part -/
theorem tie_err {Z : Prop} {x q : Str} {s : Stmt} {c f C : Addr} {d : FuncData} {ps : List Str} (X : K.In h) (G : h.Ns mainGlobals mg) (e : ErrC K mg x c f ∧ L2.Fun K "__init__" q s f d ∧ L2.Binds K d ps []) (rC : PySem.W.nsIn K mainGlobals "Refusal" = some (some (.ref C))) (y : PySem.W.exmOne K (.ref c) (.ref C) = some true) (z : Z) :
    (ErrC K mg x c f ∧ L2.Fun K "__init__" q s f d ∧ L2.Binds K d ps []) ∧ (∃ C, mg "Refusal" = some (.ref C) ∧ PySem.W.exmOne K (.ref c) (.ref C) = some true) ∧ Z := ⟨e, ⟨C, PySem.W.mg_of X G rC, y⟩, z⟩
theorem same_cls {R : RefAd} {C c : Addr} (h : RefC K mg R) (g : mg "Refusal" = some (.ref C)) (x : PySem.W.exmOne K (.ref c) (.ref C) = some true) : PySem.W.exmOne K (.ref c) (.ref R.cRef) = some true := by
  have q := h.ref.g
  rw [g] at q
  injection q with q
  injection q with q
  rw [← q]
  exact x
theorem tie_mt {T : Addr} {Z : Prop} {x q : Str} {s : Stmt} {f : Addr} {d : FuncData} {ps : List Str} (e : Mt1 K T x q s ps f d) (z : Tied K T Z) : Tied K T (Mt1 K T x q s ps f d ∧ Z) := ⟨e, z.is⟩
theorem tie_mt1 {T : Addr} {x q : Str} {s : Stmt} {f : Addr} {d : FuncData} {ps : List Str} (e : Mt1 K T x q s ps f d) : Tied K T (Mt1 K T x q s ps f d) := ⟨e⟩
end
end SDP
set_option Elab.async false
set_option linter.all false
set_option maxRecDepth 100000
set_option maxHeartbeats 4000000
/-! # The reader's class, the words' parts -/
namespace SDP
open PySem PySem.Spec PyProof.Rows L2 SDX SD TL
open SeamNum (Bytes)
open SeamText (takesOf)
section
variable {w : World} {K : PySem.W.Frag} {h : Heap} {mg : Str → Option Value}
theorem keep_parts {pa : Addr} {es : Array DictEntry} {n : Nat} (D : PartsK K w mg pa es n) : PartsD K w mg := ⟨pa, D.g, fun g hg => by
  obtain ⟨b, nb, hb⟩ := D.at_ g hg
  exact ⟨b, ⟨es, n, .ref b, D.kd.at_, D.kd.lit, nb, rfl⟩, hb⟩⟩
theorem part_two {pP b : Addr} {o : Obj} {z : Str} {g : Nat} (p : PySem.W.nsIn K pP z = some (some (.ref b))) (l : K.lookup b = some o)
    (e : tupB o ((takesOf g).map fun p => tx (partB p)) = true) (ez : z = tx (whatOf g)) : ∃ b, PySem.W.nsIn K pP (tx (whatOf g)) = some (some (.ref b)) ∧ ∀ H, SqT K H b ((takesOf g).map fun p => V.str (tx (partB p))) := by
  rw [← ez]
  refine ⟨b, p, fun H => ?_⟩
  have q := tupB_ok l e H
  rw [List.map_map] at q
  exact q
theorem mk_parts (X : K.In h) (G : h.Ns mainGlobals mg) {pP : Addr} {es : Array DictEntry} {n : Nat} (aP : PySem.W.nsIn K mainGlobals "PARTS" = some (some (.ref pP))) (lP : K.lookup pP = some ⟨.type "dict", none, .dict es n, #[]⟩) (hk : PySem.W.KeysLit w.params es.toList) (low : (pP == sysModules) = false)
    (n1 : PySem.W.nsIn K pP "+" = some none) (n2 : PySem.W.nsIn K pP "-" = some none) (n3 : PySem.W.nsIn K pP "*" = some none) (n4 : PySem.W.nsIn K pP "/" = some none)
    {b0 : Addr} {o0 : Obj} (p0 : PySem.W.nsIn K pP "x" = some (some (.ref b0))) (l0 : K.lookup b0 = some o0) (e0 : tupB o0 ((takesOf 0).map fun p => tx (partB p)) = true)
    {b1 : Addr} {o1 : Obj} (p1 : PySem.W.nsIn K pP "y" = some (some (.ref b1))) (l1 : K.lookup b1 = some o1) (e1 : tupB o1 ((takesOf 1).map fun p => tx (partB p)) = true)
    {b2 : Addr} {o2 : Obj} (p2 : PySem.W.nsIn K pP "min" = some (some (.ref b2))) (l2 : K.lookup b2 = some o2) (e2 : tupB o2 ((takesOf 2).map fun p => tx (partB p)) = true)
    {b3 : Addr} {o3 : Obj} (p3 : PySem.W.nsIn K pP "max" = some (some (.ref b3))) (l3 : K.lookup b3 = some o3) (e3 : tupB o3 ((takesOf 3).map fun p => tx (partB p)) = true)
    {b4 : Addr} {o4 : Obj} (p4 : PySem.W.nsIn K pP "pair" = some (some (.ref b4))) (l4 : K.lookup b4 = some o4) (e4 : tupB o4 ((takesOf 4).map fun p => tx (partB p)) = true)
    {b5 : Addr} {o5 : Obj} (p5 : PySem.W.nsIn K pP "between" = some (some (.ref b5))) (l5 : K.lookup b5 = some o5) (e5 : tupB o5 ((takesOf 5).map fun p => tx (partB p)) = true)
    {b6 : Addr} {o6 : Obj} (p6 : PySem.W.nsIn K pP "meet" = some (some (.ref b6))) (l6 : K.lookup b6 = some o6) (e6 : tupB o6 ((takesOf 6).map fun p => tx (partB p)) = true)
    {b7 : Addr} {o7 : Obj} (p7 : PySem.W.nsIn K pP "foot" = some (some (.ref b7))) (l7 : K.lookup b7 = some o7) (e7 : tupB o7 ((takesOf 7).map fun p => tx (partB p)) = true)
    {b8 : Addr} {o8 : Obj} (p8 : PySem.W.nsIn K pP "mirror" = some (some (.ref b8))) (l8 : K.lookup b8 = some o8) (e8 : tupB o8 ((takesOf 8).map fun p => tx (partB p)) = true)
    {b9 : Addr} {o9 : Obj} (p9 : PySem.W.nsIn K pP "turn" = some (some (.ref b9))) (l9 : K.lookup b9 = some o9) (e9 : tupB o9 ((takesOf 9).map fun p => tx (partB p)) = true)
    {b10 : Addr} {o10 : Obj} (p10 : PySem.W.nsIn K pP "shift" = some (some (.ref b10))) (l10 : K.lookup b10 = some o10) (e10 : tupB o10 ((takesOf 10).map fun p => tx (partB p)) = true)
    : PartsK K w mg pP es n := by
  refine ⟨PySem.W.mg_of X G aP, ⟨lP, hk, low⟩, fun g hg => ?_, fun c hc => ?_⟩
  case refine_2 =>
    have e1 : Str.ofString "+" = tx [43] := by decide +kernel
    have e2 : Str.ofString "-" = tx [45] := by decide +kernel
    have e3 : Str.ofString "*" = tx [42] := by decide +kernel
    have e4 : Str.ofString "/" = tx [47] := by decide +kernel
    rw [e1] at n1
    rw [e2] at n2
    rw [e3] at n3
    rw [e4] at n4
    rcases hc with z | z | z | z <;> (rw [z]; assumption)
  match g, hg with
  | 0, _ => exact part_two p0 l0 e0 (by decide +kernel)
  | 1, _ => exact part_two p1 l1 e1 (by decide +kernel)
  | 2, _ => exact part_two p2 l2 e2 (by decide +kernel)
  | 3, _ => exact part_two p3 l3 e3 (by decide +kernel)
  | 4, _ => exact part_two p4 l4 e4 (by decide +kernel)
  | 5, _ => exact part_two p5 l5 e5 (by decide +kernel)
  | 6, _ => exact part_two p6 l6 e6 (by decide +kernel)
  | 7, _ => exact part_two p7 l7 e7 (by decide +kernel)
  | 8, _ => exact part_two p8 l8 e8 (by decide +kernel)
  | 9, _ => exact part_two p9 l9 e9 (by decide +kernel)
  | 10, _ => exact part_two p10 l10 e10 (by decide +kernel)
/-- all of Reader -/
theorem mk_rdc {R : RefAd} {C fI fH fR fT fN cNo fNo : Addr} {dI dH dR dT dN dNo : FuncData} (X : K.In h) (G : h.Ns mainGlobals mg) (RC : RefC K mg R) (eN : ErrC K mg "NoDraft" cNo fNo ∧ L2.Fun K "__init__" "NoDraft.__init__" sNoI fNo dNo ∧ L2.Binds K dNo ["self", "kind", "place"] [])
    (xN : PySem.W.exmOne K (.ref cNo) (.ref R.cRef) = some true) (BT : Gi mg "BAD_TOKEN" 1) (WT : Gi mg "WRONG_TOKEN" 2) (zR : mg "range" = none) (TG : TokG K mg) (aC : PySem.W.nsIn K mainGlobals "Reader" = some (some (.ref C)))
    (pg : PySem.W.plainGet K C Str.empty = true) (hd : PySem.W.hasDictIn K C = true) (po : PySem.W.plainOver K C = true) (sa : PySem.W.findIn K (.ref C) "__setattr__" = some (some (.builtin "object.__setattr__"))) (mk : PySem.W.makesIn K C = true) (kc : PySem.W.keepIn K (.ref C) = true)
    (nT : PySem.W.findIn K (.ref C) "tokens" = some none) (nA : PySem.W.findIn K (.ref C) "at" = some none)
    (hI : Mt1 K C "__init__" "Reader.__init__" sRdI ["self", "tokens"] fI dI) (hH : Mt1 K C "here" "Reader.here" sHere ["self"] fH dH) (hR : Mt1 K C "refuse" "Reader.refuse" sRefuse ["self"] fR dR) (hT : Mt1 K C "take" "Reader.take" sTake ["self", "kind"] fT dT) (hN : Mt1 K C "take_names" "Reader.take_names" sTakeN ["self", "count"] fN dN) :
    RdC K mg ⟨C, fI, dI, fH, dH, fR, dR, fT, dT, fN, dN, cNo, fNo, dNo, R.cRef, R.fRef, R.dRef, R.mc⟩ ∧ PySem.W.exmOne K (.ref cNo) (.ref R.cRef) = some true :=
  ⟨{ g := PySem.W.mg_of X G aC, cl := ⟨pg, hd, po, sa⟩, nT := nT, nA := nA, made := ⟨mk, hI.m.at_, hI.m.fn, kc⟩, I := hI, Hh := hH, R := hR, T := hT, N := hN, no := eN.1, ref := RC.ref, FNo := eN.2.1, bNo := eN.2.2, FRef := RC.FRef, bRef := RC.bRef, cr := RC.cr, cv := RC.cv, mE := RC.mE, vE := RC.vE, BT := BT, WT := WT, range := zR, G := TG }, xN⟩
end
end SDP
set_option Elab.async false
set_option linter.all false
set_option maxRecDepth 100000
set_option maxHeartbeats 4000000
/-! # What is due: print_of -/
namespace SDP
open PySem PySem.Spec PyProof.Rows L2 SDX SD TL
open SeamNum (Bytes)
open SeamText (readDraft)
theorem print_of_due (b : Bytes) : PyWrdrft.print_of (b.map fun c => (c.toNat : Int)) = printOut b := by
  have e : PyWrdrft.print_of (b.map fun c => (c.toNat : Int)) = DraftsNeutral.numbersOf (Drafts.looked [DraftsNeutral.text (b.map fun c => (c.toNat : Int))] fun _ => Drafts.ofDraft (DraftsNeutral.text (b.map fun c => (c.toNat : Int))) fun d => SeamNum.gives (SeamText.printed d)) := rfl
  rw [e, text_is]
  unfold printOut
  by_cases h : 4096 < b.length
  · rw [if_pos h, looked_long (List.mem_singleton.mpr rfl) h]
    rfl
  · rw [if_neg h, looked_short (fun x hx => by rw [List.mem_singleton.mp hx]; omega)]
    unfold Drafts.ofDraft
    cases readDraft b with
    | error e => rfl
    | ok d => rfl
open PySem.W in
theorem print_of_end {K : PySem.W.Frag} {H : Hp} {p : Addr} {a : Codec.denoteAll PySem.Challenge.rw_seamdrafts_s02_print_of.args} (hs : SqL K H p (a.1.map V.int)) (hw : Codec.withinAll PySem.Challenge.rw_seamdrafts_s02_print_of.args a = true) :
    spPrOf K [.ref p] H (fun v H' => Dw K H' v (PySem.Challenge.rw_seamdrafts_s02_print_of.ret.enc (Codec.app PySem.Challenge.rw_seamdrafts_s02_print_of.args PySem.Challenge.rw_seamdrafts_s02_print_of.f a))) fun _ _ _ => False := by
  obtain ⟨ns, u⟩ := a
  have hw : (PySem.W.Codec.inList 0 4200 (PySem.W.Codec.inInt 0 255) ns && true) = true := hw
  rw [Bool.and_true] at hw
  obtain ⟨b, hb, hB, hl⟩ := bytes_in hs hw
  refine ⟨p, b, rfl, hB, hl, fun H' q hq => ?_⟩
  have hb : ns = b.map fun c => (c.toNat : Int) := hb
  have e : PyWrdrft.print_of ns = printOut b := by rw [hb]; exact print_of_due b
  show Dw K H' (.ref q) (PySem.Challenge.rw_seamdrafts_s02_print_of.ret.enc (PyWrdrft.print_of ns))
  rw [e]
  exact .lst (L2.SqL.of hq) (L2.dw_ints _)
end SDP
set_option linter.all false
open PySem PySem.W PyProof.Rows
set_option maxRecDepth 100000 in
set_option maxHeartbeats 0 in
theorem PySem.Challenge.cw_seamdrafts_s02_print_of_holds : PySem.Challenge.rw_seamdrafts_s02_print_of.Holds := by
  w_on; k_headS; (case hw => exact ⟨[.list []], by decide +kernel, by decide +kernel⟩)
  k_fillS
  refine L2.walk_specK (r := PySem.Challenge.rw_seamdrafts_s02_print_of) (k := 34) (CX := L2.CX0) (ps := ["t"]) (sp := SDP.spPrOf) (by decide +kernel) rfl rfl ⟨rfl, by decide, by decide⟩ (fun w h Y => PySem.W.kIn_of Y) ?F ?S (fun _ _ _ _ z => z)
  case F =>
    intro w mg fa h Y KX G hmg
    obtain ⟨f_text_of, d_text_of, h_text_of⟩ : ∃ f d, SDP.Fn1 _ mg "text_of" SDP.sTextOf ["t"] f d := by
      refine' ⟨_, _, SDP.mk_text_of KX G ?a ?l ?c ?k⟩
      (case a => k_is); (case l => k_is); (case c => k_is); (case k => k_is)
    obtain ⟨f_bytes_of, d_bytes_of, h_bytes_of⟩ : ∃ f d, SDP.Fn1 _ mg "bytes_of" SDP.S_bytes_of ["text"] f d := by
      refine' ⟨_, _, SDP.mk_bytes_of KX G ?a ?l ?c ?k⟩
      (case a => k_is); (case l => k_is); (case c => k_is); (case k => k_is)
    obtain ⟨f_past_blanks, d_past_blanks, h_past_blanks⟩ : ∃ f d, SDP.Fn1 _ mg "past_blanks" SDP.sPastBl ["text", "at"] f d := by
      refine' ⟨_, _, SDP.mk_past_blanks KX G ?a ?l ?c ?k⟩
      (case a => k_is); (case l => k_is); (case c => k_is); (case k => k_is)
    obtain ⟨f_past_remark, d_past_remark, h_past_remark⟩ : ∃ f d, SDP.Fn1 _ mg "past_remark" SDP.sPastRe ["text", "at"] f d := by
      refine' ⟨_, _, SDP.mk_past_remark KX G ?a ?l ?c ?k⟩
      (case a => k_is); (case l => k_is); (case c => k_is); (case k => k_is)
    obtain ⟨f_past_letters, d_past_letters, h_past_letters⟩ : ∃ f d, SDP.Fn1 _ mg "past_letters" SDP.sPastLe ["text", "at"] f d := by
      refine' ⟨_, _, SDP.mk_past_letters KX G ?a ?l ?c ?k⟩
      (case a => k_is); (case l => k_is); (case c => k_is); (case k => k_is)
    obtain ⟨f_past_digits, d_past_digits, h_past_digits⟩ : ∃ f d, SDP.Fn1 _ mg "past_digits" SDP.sPastDi ["text", "at"] f d := by
      refine' ⟨_, _, SDP.mk_past_digits KX G ?a ?l ?c ?k⟩
      (case a => k_is); (case l => k_is); (case c => k_is); (case k => k_is)
    obtain ⟨f_past_number, d_past_number, h_past_number⟩ : ∃ f d, SDP.Fn1 _ mg "past_number" SDP.sPastNu ["text", "at"] f d := by
      refine' ⟨_, _, SDP.mk_past_number KX G ?a ?l ?c ?k⟩
      (case a => k_is); (case l => k_is); (case c => k_is); (case k => k_is)
    obtain ⟨f_past_token, d_past_token, h_past_token⟩ : ∃ f d, SDP.Fn1 _ mg "past_token" SDP.sPastTo ["text", "at"] f d := by
      refine' ⟨_, _, SDP.mk_past_token KX G ?a ?l ?c ?k⟩
      (case a => k_is); (case l => k_is); (case c => k_is); (case k => k_is)
    obtain ⟨f_kind_of, d_kind_of, h_kind_of⟩ : ∃ f d, SDP.Fn1 _ mg "kind_of" SDP.sKindOf ["part"] f d := by
      refine' ⟨_, _, SDP.mk_kind_of KX G ?a ?l ?c ?k⟩
      (case a => k_is); (case l => k_is); (case c => k_is); (case k => k_is)
    obtain ⟨f_tokens_of, d_tokens_of, h_tokens_of⟩ : ∃ f d, SDP.Fn1 _ mg "tokens_of" SDP.sToksOf ["t"] f d := by
      refine' ⟨_, _, SDP.mk_tokens_of KX G ?a ?l ?c ?k⟩
      (case a => k_is); (case l => k_is); (case c => k_is); (case k => k_is)
    obtain ⟨f_plain_number, d_plain_number, h_plain_number⟩ : ∃ f d, SDP.Fn1 _ mg "plain_number" SDP.sPlain ["text"] f d := by
      refine' ⟨_, _, SDP.mk_plain_number KX G ?a ?l ?c ?k⟩
      (case a => k_is); (case l => k_is); (case c => k_is); (case k => k_is)
    obtain ⟨f_read_sum, d_read_sum, h_read_sum⟩ : ∃ f d, SDP.Fn1 _ mg "read_sum" SDP.sSum ["reader", "depth", "steps"] f d := by
      refine' ⟨_, _, SDP.mk_read_sum KX G ?a ?l ?c ?k⟩
      (case a => k_is); (case l => k_is); (case c => k_is); (case k => k_is)
    obtain ⟨f_read_product, d_read_product, h_read_product⟩ : ∃ f d, SDP.Fn1 _ mg "read_product" SDP.sProd ["reader", "depth", "steps"] f d := by
      refine' ⟨_, _, SDP.mk_read_product KX G ?a ?l ?c ?k⟩
      (case a => k_is); (case l => k_is); (case c => k_is); (case k => k_is)
    obtain ⟨f_read_factor, d_read_factor, h_read_factor⟩ : ∃ f d, SDP.Fn1 _ mg "read_factor" SDP.sFac ["reader", "depth", "steps"] f d := by
      refine' ⟨_, _, SDP.mk_read_factor KX G ?a ?l ?c ?k⟩
      (case a => k_is); (case l => k_is); (case c => k_is); (case k => k_is)
    obtain ⟨f_read_place, d_read_place, h_read_place⟩ : ∃ f d, SDP.Fn1 _ mg "read_place" SDP.sPl ["reader", "depth", "steps"] f d := by
      refine' ⟨_, _, SDP.mk_read_place KX G ?a ?l ?c ?k⟩
      (case a => k_is); (case l => k_is); (case c => k_is); (case k => k_is)
    obtain ⟨f_read_parts, d_read_parts, h_read_parts⟩ : ∃ f d, SDP.Fn1 _ mg "read_parts" SDP.sParts ["reader", "what", "depth", "steps"] f d := by
      refine' ⟨_, _, SDP.mk_read_parts KX G ?a ?l ?c ?k⟩
      (case a => k_is); (case l => k_is); (case c => k_is); (case k => k_is)
    obtain ⟨f_read_meaning, d_read_meaning, h_read_meaning⟩ : ∃ f d, SDP.Fn1 _ mg "read_meaning" SDP.sMean ["reader", "word"] f d := by
      refine' ⟨_, _, SDP.mk_read_meaning KX G ?a ?l ?c ?k⟩
      (case a => k_is); (case l => k_is); (case c => k_is); (case k => k_is)
    obtain ⟨f_read_corners, d_read_corners, h_read_corners⟩ : ∃ f d, SDP.Fn1 _ mg "read_corners" SDP.sCorn ["reader"] f d := by
      refine' ⟨_, _, SDP.mk_read_corners KX G ?a ?l ?c ?k⟩
      (case a => k_is); (case l => k_is); (case c => k_is); (case k => k_is)
    obtain ⟨f_read_piece, d_read_piece, h_read_piece⟩ : ∃ f d, SDP.Fn1 _ mg "read_piece" SDP.sPiec ["reader"] f d := by
      refine' ⟨_, _, SDP.mk_read_piece KX G ?a ?l ?c ?k⟩
      (case a => k_is); (case l => k_is); (case c => k_is); (case k => k_is)
    obtain ⟨f_read_seam, d_read_seam, h_read_seam⟩ : ∃ f d, SDP.Fn1 _ mg "read_seam" SDP.sSeam ["reader"] f d := by
      refine' ⟨_, _, SDP.mk_read_seam KX G ?a ?l ?c ?k⟩
      (case a => k_is); (case l => k_is); (case c => k_is); (case k => k_is)
    obtain ⟨f_read_statement, d_read_statement, h_read_statement⟩ : ∃ f d, SDP.Fn1 _ mg "read_statement" SDP.sStat ["reader"] f d := by
      refine' ⟨_, _, SDP.mk_read_statement KX G ?a ?l ?c ?k⟩
      (case a => k_is); (case l => k_is); (case c => k_is); (case k => k_is)
    obtain ⟨f_read_draft, d_read_draft, h_read_draft⟩ : ∃ f d, SDP.Fn1 _ mg "read_draft" SDP.sDraft ["t"] f d := by
      refine' ⟨_, _, SDP.mk_read_draft KX G ?a ?l ?c ?k⟩
      (case a => k_is); (case l => k_is); (case c => k_is); (case k => k_is)
    obtain ⟨f_at_least, d_at_least, h_at_least⟩ : ∃ f d, SDP.Fn1 _ mg "at_least" SDP.sAtL ["firmness", "part"] f d := by
      refine' ⟨_, _, SDP.mk_at_least KX G ?a ?l ?c ?k⟩
      (case a => k_is); (case l => k_is); (case c => k_is); (case k => k_is)
    obtain ⟨f_with_sign, d_with_sign, h_with_sign⟩ : ∃ f d, SDP.Fn1 _ mg "with_sign" SDP.sSignW ["sign", "left", "right"] f d := by
      refine' ⟨_, _, SDP.mk_with_sign KX G ?a ?l ?c ?k⟩
      (case a => k_is); (case l => k_is); (case c => k_is); (case k => k_is)
    obtain ⟨f_with_parts, d_with_parts, h_with_parts⟩ : ∃ f d, SDP.Fn1 _ mg "with_parts" SDP.sWith ["what", "parts"] f d := by
      refine' ⟨_, _, SDP.mk_with_parts KX G ?a ?l ?c ?k⟩
      (case a => k_is); (case l => k_is); (case c => k_is); (case k => k_is)
    obtain ⟨f_tokens_of_steps, d_tokens_of_steps, h_tokens_of_steps⟩ : ∃ f d, SDP.Fn1 _ mg "tokens_of_steps" SDP.sStepsW ["steps"] f d := by
      refine' ⟨_, _, SDP.mk_tokens_of_steps KX G ?a ?l ?c ?k⟩
      (case a => k_is); (case l => k_is); (case c => k_is); (case k => k_is)
    obtain ⟨f_tokens_of_piece, d_tokens_of_piece, h_tokens_of_piece⟩ : ∃ f d, SDP.Fn1 _ mg "tokens_of_piece" SDP.sPieceW ["name", "corners", "grain"] f d := by
      refine' ⟨_, _, SDP.mk_tokens_of_piece KX G ?a ?l ?c ?k⟩
      (case a => k_is); (case l => k_is); (case c => k_is); (case k => k_is)
    obtain ⟨f_tokens_of_statement, d_tokens_of_statement, h_tokens_of_statement⟩ : ∃ f d, SDP.Fn1 _ mg "tokens_of_statement" SDP.sStW ["statement"] f d := by
      refine' ⟨_, _, SDP.mk_tokens_of_statement KX G ?a ?l ?c ?k⟩
      (case a => k_is); (case l => k_is); (case c => k_is); (case k => k_is)
    obtain ⟨f_stand_apart, d_stand_apart, h_stand_apart⟩ : ∃ f d, SDP.Fn1 _ mg "stand_apart" SDP.sApart ["left", "right"] f d := by
      refine' ⟨_, _, SDP.mk_stand_apart KX G ?a ?l ?c ?k⟩
      (case a => k_is); (case l => k_is); (case c => k_is); (case k => k_is)
    obtain ⟨f_text_of_tokens, d_text_of_tokens, h_text_of_tokens⟩ : ∃ f d, SDP.Fn1 _ mg "text_of_tokens" SDP.sTextW ["tokens"] f d := by
      refine' ⟨_, _, SDP.mk_text_of_tokens KX G ?a ?l ?c ?k⟩
      (case a => k_is); (case l => k_is); (case c => k_is); (case k => k_is)
    obtain ⟨f_printed, d_printed, h_printed⟩ : ∃ f d, SDP.Fn1 _ mg "printed" SDP.sPrintd ["statements"] f d := by
      refine' ⟨_, _, SDP.mk_printed KX G ?a ?l ?c ?k⟩
      (case a => k_is); (case l => k_is); (case c => k_is); (case k => k_is)
    obtain ⟨f_answer, d_answer, h_answer⟩ : ∃ f d, SDP.Fn1 _ mg "answer" SDP.sAnsw ["number", "told", "signed"] f d := by
      refine' ⟨_, _, SDP.mk_answer KX G ?a ?l ?c ?k⟩
      (case a => k_is); (case l => k_is); (case c => k_is); (case k => k_is)
    obtain ⟨f_check_lengths, d_check_lengths, h_check_lengths⟩ : ∃ f d, SDP.Fn1 _ mg "check_lengths" SDP.sCheck ["texts"] f d := by
      refine' ⟨_, _, SDP.mk_check_lengths KX G ?a ?l ?c ?k⟩
      (case a => k_is); (case l => k_is); (case c => k_is); (case k => k_is)
    obtain ⟨f_main, d_main, h_main, hb_main⟩ : ∃ f d, SDP.Fn1 _ mg "print_of" SDP.sPrOf ["t"] f d ∧ ∀ us : List Value, us.length = (["t"] : List Str).length → bindArgs d ⟨us, []⟩ = pure ((["t"] : List Str).zip us) := by
      refine' ⟨_, _, SDP.mk_print_of KX G ?a ?l ?c ?k, ?b⟩
      (case a => k_is); (case l => k_is); (case c => k_is); (case k => k_is)
      (case b => exact fun us hl => match us, hl with | [_], _ => rfl)
    have c_FEWEST_CORNERS : SDP.Gi mg "FEWEST_CORNERS" 3 := by
      refine' SDP.mk_gi KX G ?a
      (case a => k_is)
    have c_MOST_CORNERS : SDP.Gi mg "MOST_CORNERS" 16 := by
      refine' SDP.mk_gi KX G ?a
      (case a => k_is)
    have c_KNOWN : SDP.Gs mg "KNOWN" SDP.KNOWNB := by
      refine' SDP.mk_gs KX G ?a ?e
      (case a => k_is); (case e => decide +kernel)
    have c_STRANGER : SDP.Gs mg "STRANGER" [63] := by
      refine' SDP.mk_gs KX G ?a ?e
      (case a => k_is); (case e => decide +kernel)
    have c_NAME : SDP.Gs mg "NAME" SD.sName := by
      refine' SDP.mk_gs KX G ?a ?e
      (case a => k_is); (case e => decide +kernel)
    have c_NUMBER : SDP.Gs mg "NUMBER" SD.sNumber := by
      refine' SDP.mk_gs KX G ?a ?e
      (case a => k_is); (case e => decide +kernel)
    have c_END : SDP.Gs mg "END" SD.sEnd := by
      refine' SDP.mk_gs KX G ?a ?e
      (case a => k_is); (case e => decide +kernel)
    have c_BAD : SDP.Gs mg "BAD" SD.sBad := by
      refine' SDP.mk_gs KX G ?a ?e
      (case a => k_is); (case e => decide +kernel)
    obtain c_WORDS : SDP.Gt _ mg "WORDS" SD.WORDSB := by
      refine' SDP.mk_gt KX G ?a ?l ?e
      (case a => k_is); (case l => k_is); (case e => decide +kernel)
    have c_SIGNS : SDP.Gs mg "SIGNS" SDP.SIGNSB := by
      refine' SDP.mk_gs KX G ?a ?e
      (case a => k_is); (case e => decide +kernel)
    have c_LONGEST_NAME : SDP.Gi mg "LONGEST_NAME" 16 := by
      refine' SDP.mk_gi KX G ?a
      (case a => k_is)
    have c_MOST_DIGITS : SDP.Gi mg "MOST_DIGITS" 18 := by
      refine' SDP.mk_gi KX G ?a
      (case a => k_is)
    have c_SUM_NAME : SDP.Gs mg "SUM_NAME" SD.sSumN := by
      refine' SDP.mk_gs KX G ?a ?e
      (case a => k_is); (case e => decide +kernel)
    have c_PLACE_NAME : SDP.Gs mg "PLACE_NAME" SD.sPlaceN := by
      refine' SDP.mk_gs KX G ?a ?e
      (case a => k_is); (case e => decide +kernel)
    have c_NEGATIVE : SDP.Gs mg "NEGATIVE" SD.sNeg := by
      refine' SDP.mk_gs KX G ?a ?e
      (case a => k_is); (case e => decide +kernel)
    have c_PAIR : SDP.Gs mg "PAIR" (SeamNum.ascii "pair") := by
      refine' SDP.mk_gs KX G ?a ?e
      (case a => k_is); (case e => decide +kernel)
    have c_BAD_TOKEN : SDP.Gi mg "BAD_TOKEN" 1 := by
      refine' SDP.mk_gi KX G ?a
      (case a => k_is)
    have c_WRONG_TOKEN : SDP.Gi mg "WRONG_TOKEN" 2 := by
      refine' SDP.mk_gi KX G ?a
      (case a => k_is)
    have c_DEEPEST : SDP.Gi mg "DEEPEST" 6 := by
      refine' SDP.mk_gi KX G ?a
      (case a => k_is)
    have c_MOST_STATEMENTS : SDP.Gi mg "MOST_STATEMENTS" 128 := by
      refine' SDP.mk_gi KX G ?a
      (case a => k_is)
    obtain c_SUM_WORDS : SDP.Gt _ mg "SUM_WORDS" SD.SUMB := by
      refine' SDP.mk_gt KX G ?a ?l ?e
      (case a => k_is); (case l => k_is); (case e => decide +kernel)
    obtain c_PLACE_WORDS : SDP.Gt _ mg "PLACE_WORDS" SD.PLACEB := by
      refine' SDP.mk_gt KX G ?a ?l ?e
      (case a => k_is); (case l => k_is); (case e => decide +kernel)
    have c_SUM : SDP.Gi mg "SUM" 0 := by
      refine' SDP.mk_gi KX G ?a
      (case a => k_is)
    have c_PRODUCT : SDP.Gi mg "PRODUCT" 1 := by
      refine' SDP.mk_gi KX G ?a
      (case a => k_is)
    have c_FACTOR : SDP.Gi mg "FACTOR" 2 := by
      refine' SDP.mk_gi KX G ?a
      (case a => k_is)
    have c_LONGEST_TEXT : SDP.Gi mg "LONGEST_TEXT" 4096 := by
      refine' SDP.mk_gi KX G ?a
      (case a => k_is)
    have z_dict : mg "dict" = none := by
      refine' SDP.mk_none KX G ?a
      (case a => k_is)
    have z_enumerate : mg "enumerate" = none := by
      refine' SDP.mk_none KX G ?a
      (case a => k_is)
    have z_len : mg "len" = none := by
      refine' SDP.mk_none KX G ?a
      (case a => k_is)
    have z_max : mg "max" = none := by
      refine' SDP.mk_none KX G ?a
      (case a => k_is)
    have z_ord : mg "ord" = none := by
      refine' SDP.mk_none KX G ?a
      (case a => k_is)
    have z_range : mg "range" = none := by
      refine' SDP.mk_none KX G ?a
      (case a => k_is)
    obtain ⟨pP, esP, nP, c_PK⟩ : ∃ pa es n, SDP.PartsK _ w mg pa es n := by
      refine' ⟨_, _, _, SDP.mk_parts KX G ?aP ?lP ?hk ?low ?n1 ?n2 ?n3 ?n4 ?p0 ?l0 ?e0 ?p1 ?l1 ?e1 ?p2 ?l2 ?e2 ?p3 ?l3 ?e3 ?p4 ?l4 ?e4 ?p5 ?l5 ?e5 ?p6 ?l6 ?e6 ?p7 ?l7 ?e7 ?p8 ?l8 ?e8 ?p9 ?l9 ?e9 ?p10 ?l10 ?e10⟩
      (case aP => k_is); (case lP => k_is); (case hk => exact ⟨⟨_, _, rfl, rfl⟩, ⟨_, _, rfl, rfl⟩, ⟨_, _, rfl, rfl⟩, ⟨_, _, rfl, rfl⟩, ⟨_, _, rfl, rfl⟩, ⟨_, _, rfl, rfl⟩, ⟨_, _, rfl, rfl⟩, ⟨_, _, rfl, rfl⟩, ⟨_, _, rfl, rfl⟩, ⟨_, _, rfl, rfl⟩, ⟨_, _, rfl, rfl⟩, trivial⟩); (case low => first | rfl | decide +kernel)
      (case n1 => k_is); (case n2 => k_is); (case n3 => k_is); (case n4 => k_is)
      (case p0 => k_is); (case l0 => k_is); (case e0 => decide +kernel)
      (case p1 => k_is); (case l1 => k_is); (case e1 => decide +kernel)
      (case p2 => k_is); (case l2 => k_is); (case e2 => decide +kernel)
      (case p3 => k_is); (case l3 => k_is); (case e3 => decide +kernel)
      (case p4 => k_is); (case l4 => k_is); (case e4 => decide +kernel)
      (case p5 => k_is); (case l5 => k_is); (case e5 => decide +kernel)
      (case p6 => k_is); (case l6 => k_is); (case e6 => decide +kernel)
      (case p7 => k_is); (case l7 => k_is); (case e7 => decide +kernel)
      (case p8 => k_is); (case l8 => k_is); (case e8 => decide +kernel)
      (case p9 => k_is); (case l9 => k_is); (case e9 => decide +kernel)
      (case p10 => k_is); (case l10 => k_is); (case e10 => decide +kernel)
    obtain ⟨R, hR⟩ : ∃ (R : SDP.RefAd), SDP.RefC _ mg R := by
      refine' ⟨_, SDP.mk_refc (mc := .type "type") KX G (SDP.er_Refusal KX G ?aC_Refusal ?xL_Refusal ?xB_Refusal ?sa_Refusal ?eC_Refusal ?tC_Refusal ?kC_Refusal ?ga_Refusal ?gg_Refusal ?hC_Refusal ?nN_Refusal ?nS_Refusal ?a_Refusal ?t_Refusal ?l_Refusal ?c_Refusal ?k_Refusal) (SDP.er_TooLong KX G ?aC_TooLong ?xL_TooLong ?xB_TooLong ?sa_TooLong ?eC_TooLong ?tC_TooLong ?kC_TooLong ?ga_TooLong ?gg_TooLong ?hC_TooLong ?nN_TooLong ?nS_TooLong ?a_TooLong ?t_TooLong ?l_TooLong ?c_TooLong ?k_TooLong) ?r1 ?r2 ?r3 ?zE ?vE ?xT⟩
      (case aC_Refusal => k_is)
      (case xL_Refusal => k_is)
      (case xB_Refusal => decide +kernel)
      (case sa_Refusal => k_is)
      (case eC_Refusal => k_is)
      (case tC_Refusal => k_is)
      (case kC_Refusal => k_is)
      (case ga_Refusal => k_is)
      (case gg_Refusal => k_is)
      (case hC_Refusal => k_is)
      (case nN_Refusal => k_is)
      (case nS_Refusal => k_is)
      (case a_Refusal => k_is)
      (case t_Refusal => k_is)
      (case l_Refusal => k_is)
      (case c_Refusal => k_is)
      (case k_Refusal => k_is)
      (case aC_TooLong => k_is)
      (case xL_TooLong => k_is)
      (case xB_TooLong => decide +kernel)
      (case sa_TooLong => k_is)
      (case eC_TooLong => k_is)
      (case tC_TooLong => k_is)
      (case kC_TooLong => k_is)
      (case ga_TooLong => k_is)
      (case gg_TooLong => k_is)
      (case hC_TooLong => k_is)
      (case nN_TooLong => k_is)
      (case nS_TooLong => k_is)
      (case a_TooLong => k_is)
      (case t_TooLong => k_is)
      (case l_TooLong => k_is)
      (case c_TooLong => k_is)
      (case k_TooLong => k_is)
      (case r2 => first | k_is | rfl | decide +kernel)
      (case r3 => first | k_is | rfl | decide +kernel)
      (case r1 => first | k_is | rfl | decide +kernel)
      (case zE => first | k_is | rfl | decide +kernel)
      (case vE => first | k_is | rfl | decide +kernel)
      (case xT => first | k_is | rfl | decide +kernel)
    obtain ⟨cNoDraft, fNoDraft, dNoDraft, eNoDraft, xNoDraft, _⟩ : ∃ (c f : Addr) (d : FuncData), (SDP.ErrC _ mg "NoDraft" c f ∧ L2.Fun _ "__init__" "NoDraft.__init__" SDP.sNoI f d ∧ L2.Binds _ d ["self", "kind", "place"] []) ∧ (∃ C, mg "Refusal" = some (.ref C) ∧ PySem.W.exmOne _ (.ref c) (.ref C) = some true) ∧ True := by
      refine' ⟨_, _, _, SDP.tie_err KX G (SDP.er_NoDraft KX G ?aC_NoDraft ?xL_NoDraft ?xB_NoDraft ?sa_NoDraft ?eC_NoDraft ?tC_NoDraft ?kC_NoDraft ?ga_NoDraft ?gg_NoDraft ?hC_NoDraft ?nN_NoDraft ?nS_NoDraft ?a_NoDraft ?t_NoDraft ?l_NoDraft ?c_NoDraft ?k_NoDraft) ?rC ?xx trivial⟩
      (case aC_NoDraft => k_is)
      (case xL_NoDraft => k_is)
      (case xB_NoDraft => decide +kernel)
      (case sa_NoDraft => k_is)
      (case eC_NoDraft => k_is)
      (case tC_NoDraft => k_is)
      (case kC_NoDraft => k_is)
      (case ga_NoDraft => k_is)
      (case gg_NoDraft => k_is)
      (case hC_NoDraft => k_is)
      (case nN_NoDraft => k_is)
      (case nS_NoDraft => k_is)
      (case a_NoDraft => k_is)
      (case t_NoDraft => k_is)
      (case l_NoDraft => k_is)
      (case c_NoDraft => k_is)
      (case k_NoDraft => k_is)
      (case rC => k_is)
      (case xx => first | k_is | rfl | decide +kernel)
    obtain ⟨CNoDraft, gCNoDraft, xCNoDraft⟩ := xNoDraft
    have xNoDraft := SDP.same_cls hR gCNoDraft xCNoDraft
    obtain tg : SDP.TokG _ mg := ⟨z_len, z_max, c_WORDS, c_SIGNS, c_NAME, c_NUMBER, c_BAD, c_END, c_LONGEST_NAME, c_MOST_DIGITS⟩
    obtain ⟨D, hD, xN⟩ : ∃ (D : SDP.RdAd), SDP.RdC _ mg D ∧ PySem.W.exmOne _ (.ref D.cNo) (.ref R.cRef) = some true := by
      refine' ⟨_, SDP.mk_rdc KX G hR eNoDraft xNoDraft c_BAD_TOKEN c_WRONG_TOKEN z_range tg ?aC ?pg ?hd ?po ?sa ?mk ?kc ?nT ?nA (SDP.mt_Reader_init ?a_Reader_init ?i_Reader_init ?l_Reader_init ?c_Reader_init ?k_Reader_init) (SDP.mt_Reader_here ?a_Reader_here ?i_Reader_here ?l_Reader_here ?c_Reader_here ?k_Reader_here) (SDP.mt_Reader_refuse ?a_Reader_refuse ?i_Reader_refuse ?l_Reader_refuse ?c_Reader_refuse ?k_Reader_refuse) (SDP.mt_Reader_take ?a_Reader_take ?i_Reader_take ?l_Reader_take ?c_Reader_take ?k_Reader_take) (SDP.mt_Reader_take_names ?a_Reader_take_names ?i_Reader_take_names ?l_Reader_take_names ?c_Reader_take_names ?k_Reader_take_names)⟩
      (case aC => k_is)
      (case pg => k_is)
      (case hd => k_is)
      (case po => k_is)
      (case sa => k_is)
      (case mk => k_is)
      (case kc => k_is)
      (case nT => k_is)
      (case nA => k_is)
      (case a_Reader_init => k_is)
      (case i_Reader_init => k_is)
      (case l_Reader_init => k_is)
      (case c_Reader_init => k_is)
      (case k_Reader_init => k_is)
      (case a_Reader_here => k_is)
      (case i_Reader_here => k_is)
      (case l_Reader_here => k_is)
      (case c_Reader_here => k_is)
      (case k_Reader_here => k_is)
      (case a_Reader_refuse => k_is)
      (case i_Reader_refuse => k_is)
      (case l_Reader_refuse => k_is)
      (case c_Reader_refuse => k_is)
      (case k_Reader_refuse => k_is)
      (case a_Reader_take => k_is)
      (case i_Reader_take => k_is)
      (case l_Reader_take => k_is)
      (case c_Reader_take => k_is)
      (case k_Reader_take => k_is)
      (case a_Reader_take_names => k_is)
      (case i_Reader_take_names => k_is)
      (case l_Reader_take_names => k_is)
      (case c_Reader_take_names => k_is)
      (case k_Reader_take_names => k_is)
    have e := hmg.symm.trans h_main.m
    cases e
    obtain TF : SDP.ToksF _ mg f_text_of f_past_blanks f_past_remark f_past_token f_past_letters f_past_digits f_past_number f_kind_of d_text_of d_past_blanks d_past_remark d_past_token d_past_letters d_past_digits d_past_number d_kind_of := ⟨tg, ⟨z_ord, z_dict, c_KNOWN, c_STRANGER⟩, h_text_of.F, h_text_of.b, h_text_of.m, h_past_blanks.F, h_past_blanks.b, h_past_blanks.m, h_past_remark.F, h_past_remark.b, h_past_remark.m, h_past_token.F, h_past_token.b, h_past_token.m, h_past_letters.F, h_past_letters.b, h_past_letters.m, h_past_digits.F, h_past_digits.b, h_past_digits.m, h_past_number.F, h_past_number.b, h_past_number.m, h_kind_of.F, h_kind_of.b, h_kind_of.m⟩
    obtain TR : SDP.RcT _ mg D ⟨f_read_sum, d_read_sum, f_read_product, d_read_product, f_read_factor, d_read_factor, f_read_place, d_read_place, f_read_parts, d_read_parts, f_plain_number, d_plain_number⟩ :=
      ⟨hD, h_read_sum, h_read_product, h_read_factor, h_read_place, h_read_parts, h_plain_number, c_DEEPEST, c_NEGATIVE, c_SUM_NAME, c_PLACE_NAME, c_PAIR, c_SUM_WORDS, c_PLACE_WORDS, z_enumerate⟩
    obtain TS : SDP.StT _ w mg D _ ⟨f_read_meaning, d_read_meaning, f_read_corners, d_read_corners, f_read_piece, d_read_piece, f_read_seam, d_read_seam, f_read_statement, d_read_statement, f_read_draft, d_read_draft⟩ :=
      ⟨TR, SDP.keep_parts c_PK, h_read_meaning, h_read_corners, h_read_piece, h_read_seam, h_read_statement, h_read_draft, c_FEWEST_CORNERS, c_MOST_CORNERS, c_MOST_STATEMENTS⟩
    obtain TE : SDP.EndT _ w mg D _ _ R := ⟨TS, hR, xN, c_LONGEST_TEXT, z_len⟩
    refine ⟨d_main, fun s us hu => .of_eq (hb_main us hu), fun base _ _ => ?_⟩
    obtain TG : SDP.PrG _ w mg := ⟨c_SUM, c_PRODUCT, c_FACTOR, c_NEGATIVE, c_PAIR, c_SUM_NAME, c_PLACE_NAME, c_NUMBER, c_SUM_WORDS, c_PLACE_WORDS, z_len, z_enumerate, z_ord⟩
    obtain TP : SDP.PrT _ w mg pP esP nP _ _ _ _ _ _ _ _ _ _ _ _ _ _ _ _ := ⟨TG, c_PK, h_at_least, h_with_sign, h_with_parts, h_tokens_of_steps, h_tokens_of_piece, h_tokens_of_statement, h_stand_apart, h_text_of_tokens⟩
    exact SDP.ok_prOf TE h_tokens_of TF h_answer h_check_lengths TP h_bytes_of h_printed h_main
  case S =>
    intro K H xs a hO hwi hask hx
    cases hx with
    | cons h1 h2 =>
      cases h2
      cases h1 with
      | lst hs ha =>
        have e := L2.ints_dw a.1 _ ha
        subst e
        exact SDP.print_of_end hs hwi
