import PyProof.Rows.All
import Wide.All
import OpenK.AllK
import Wide.FinOn
import PyProof.EqAt
import PyProof.EqKinds
import PyProof.TupleCall
import Open.SpecLaws
import KE.OsGo
import HandS.ForSpec
import HandS.ExcInit
import HandS.ClsMeth
import HandS.HotCalls
import HandS.ExcField
import HandS.ForMost
import HandS.StrMore
import HandS.Walk
import HandS.Text
import HandS.Codes
import PyProof.Rows.Digits
import HandS.Wide
import HandS.Call
import PyProof.NeKinds
import KE.DatumOrd
import HandS.Base
import HandS.List
import HandS.Set
import HandS.Strs
import HandS.Iter
import HandS.Comp
import HandS.Deep
import HandS.HeadHook3
import KE.SortKeyHeap
import KE.KSortKey
import HandS.Exc
import HandS.SortKw
import HandS.Lambda
import HandS.Nested
import HandS.ExcValue
import HandS.NestedK
import HandS.EndOwn
import PySem.Challenge.RW_seamdrafts_s08_ones
set_option Elab.async false
set_option linter.all false
set_option maxRecDepth 100000
set_option maxHeartbeats 4000000
/-! # Errors of the program: classes over Exception, one above the other, each with an own __init__ that calls the one above -/
namespace SDX
open PySem PySem.W PySem.Calls PyProof.Rows PySem.HandSPX
open Builtin Builtin.ObjectAttr
abbrev exTail : List Value := [.type "Exception", .type "BaseException", .type "object"]
/-- own classes, then Exception's mro -/
def refsEx : List Value → Bool
  | .ref _ :: r => refsEx r
  | l => l == exTail
theorem refsEx_cases : ∀ l : List Value, refsEx l = true → (∃ c r, l = .ref c :: r ∧ refsEx r = true) ∨ l = exTail
  | [], e => .inr (beq_iff_eq.mp e)
  | .ref c :: r, e => .inl ⟨c, r, rfl, e⟩
  | .none :: _, e => .inr (beq_iff_eq.mp e)
  | .ellipsis :: _, e => .inr (beq_iff_eq.mp e)
  | .notImplemented :: _, e => .inr (beq_iff_eq.mp e)
  | .bool _ :: _, e => .inr (beq_iff_eq.mp e)
  | .int _ _ :: _, e => .inr (beq_iff_eq.mp e)
  | .float _ _ :: _, e => .inr (beq_iff_eq.mp e)
  | .str _ _ :: _, e => .inr (beq_iff_eq.mp e)
  | .bytes _ _ :: _, e => .inr (beq_iff_eq.mp e)
  | .type _ :: _, e => .inr (beq_iff_eq.mp e)
  | .builtin _ :: _, e => .inr (beq_iff_eq.mp e)
theorem refsEx_pass (self : Value) : ∀ l : List Value, refsEx l = true → refuseLoop self "__setattr__" l = pure () := by
  intro l
  induction l with
  | nil => intro e; exact absurd e (by decide)
  | cons a r ih =>
    intro e
    rcases refsEx_cases (a :: r) e with ⟨c, r', q, h⟩ | q
    · obtain ⟨rfl, rfl⟩ := List.cons.inj q
      rw [refuseLoop_ref]; exact ih h
    · rw [q]; exact F.store_Exception.passes self
theorem refsEx_contains (X : String) : ∀ l : List Value, refsEx l = true → l.contains (.type X) = exTail.contains (.type X) := by
  intro l
  induction l with
  | nil => intro e; exact absurd e (by decide)
  | cons a r ih =>
    intro e
    rcases refsEx_cases (a :: r) e with ⟨c, r', q, h⟩ | q
    · obtain ⟨rfl, rfl⟩ := List.cons.inj q
      rw [List.contains_cons, ih h]; rfl
    · rw [q]
theorem refsEx_ne {l : List Value} (e : refsEx l = true) : l.isEmpty = false := by
  cases l with
  | nil => exact absurd e (by decide)
  | cons _ _ => rfl

section
variable {prog : Program} {w : World} {A : Around} {E : Value → Shared → Prop} {R : Result → Shared → Prop} {hp : Heap} {g : Array GenState} {d : Drawn} {t : Nat} {os : OsState}
theorem exc_osa {K : W.Frag} {name : Str} {tk : Tok} {v : Value} {x C : Addr} {fv : Array Value} {cd : ClassData}
    (X : K.In hp) (hx : hp.get? x = some { cls := .ref C, data := .fields fv }) (hcd : W.clsIn K C = some cd) (hm : refsEx cd.mro = true) (hh : cd.hasDict = true) (ha : W.findIn K (.ref C) name = some none)
    (hq : ∀ h' tk' dx, (∀ b o, b ≠ x → hp.get? b = some o → h'.get? b = some o) → hp.objs.size ≤ dx → dx ≠ x → h'.get? x = some { cls := .ref C, dict := some dx, data := .fields fv } →
      h'.Ns1 dx (fun y => if y = name then some v else none) → R (.ok (.ret .none)) ⟨h', g, d, tk', os⟩) :
    codeAny (model prog w) A (.call (.builtin "object.__setattr__") ⟨[.ref x, .str name tk, v], []⟩) R ⟨hp, g, d, t, os⟩ := by
  have I : W.InstAt hp x { cls := .ref C, data := .fields fv } C none := ⟨hx, rfl, rfl, trivial⟩
  have SF := F.store_object
  have ne := refsEx_ne hm
  have hob : cd.mro.contains (.type "object") = true := (refsEx_contains "object" _ hm).trans (by decide +kernel)
  have hxs : x ≠ hp.objs.size := Nat.ne_of_lt (Heap.lt_size hx)
  have sub : W.Looks (model prog w) hp (isInstance (.ref x) (.type "object")) true := I.type.andThen (W.looks_mroIn X (by unfold W.mroIn; rw [hcd, Option.bind_some, if_neg (by rw [ne]; decide), hob]))
  refine codeAny_call_builtin SF.slot.plain SF.entry (@W.check_slot (model prog w) _ _ ⟨hp, g, d, t, os⟩ "object.__setattr__" "object" "__setattr__" (.ref x) [.str name tk, v] [] _ SF.kind SF.split sub (SF.args (.ref x) (.str name tk) v) ?_)
  have hmr : W.Looks (model prog w) hp (mroOf (.ref C)) cd.mro := (W.looks_clsIn X hcd).andThen .now
  have L3 : W.Looks (model prog w) hp (storeTaker? none) none := .now
  have hcls : W.Looks (model prog w) hp (classData C) cd := W.looks_clsIn X hcd
  rw [W.osa_eq, refuse_eq]
  refine wpAny_bind (wpAny_bind (I.type.at (wpAny_bind (hmr.at ?_))))
  rw [refsEx_pass _ _ hm]
  refine wpAny_pure (wpAny_bind (I.type.at (wpAny_bind ((W.looks_findIn X ha).at (wpAny_bind (L3.at ?_))))))
  show wpAny _ _ (storeInOwnDict (.ref x) (.ref C) (.str name tk) name v false) _ _ _
  obtain ⟨nm, bs, mro, ns, qn, hd, sn, sb, ab, col, del⟩ := cd
  dsimp only at hh
  subst hh
  unfold storeInOwnDict ownDictForStores
  repeat (first | with_reducible refine store_in_new ?_ ?_ | with_reducible refine wpAny_loadPart_at hx ?_ | with_reducible refine hcls.at ?_ | wp_step)
  · exact ⟨_, #[], _, (Heap.get?_update_ne _ _ _ _ hxs.symm).trans (Heap.get?_push_at rfl rfl), rfl, fun e he => absurd he (by simp), fun _ => rfl⟩
  · intro h' tk' hn' hs
    have hx₁ : (hp.push { cls := .type "dict", data := .dict #[] }).get? x = some { cls := .ref C, data := .fields fv } := Heap.get?_push_of_some _ hx
    refine hq h' tk' hp.objs.size (fun b o hb ho => ?_) (Nat.le_refl _) hxs.symm ?_ hn'
    · exact (hs.2 b (Nat.ne_of_lt (Heap.lt_size ho))).trans ((Heap.get?_update_ne _ _ _ _ hb).trans (Heap.get?_push_of_some _ ho))
    · exact (hs.2 x hxs).trans (Heap.get?_update_self _ hx₁ rfl)
/-- a further field of an exception that has its dict -/
theorem osa_old {K : W.Frag} {name : Str} {tk : Tok} {v : Value} {x C dx : Addr} {fv : Array Value} {cd : ClassData} {m0 : Str → Option Value} {nl : List Str}
    (X : K.In hp) (hx : hp.get? x = some { cls := .ref C, dict := some dx, data := .fields fv }) (hns : hp.Ns1 dx m0) (hw : Within m0 nl) (hz : nl.length ≤ 1000) (hcd : W.clsIn K C = some cd) (hm : refsEx cd.mro = true) (hh : cd.hasDict = true)
    (ha : W.findIn K (.ref C) name = some none)
    (hq : ∀ h' tk', (∀ b o, b ≠ dx → hp.get? b = some o → h'.get? b = some o) → h'.Ns1 dx (fun y => if y = name then some v else m0 y) → R (.ok (.ret .none)) ⟨h', g, d, tk', os⟩) :
    codeAny (model prog w) A (.call (.builtin "object.__setattr__") ⟨[.ref x, .str name tk, v], []⟩) R ⟨hp, g, d, t, os⟩ := by
  obtain ⟨oD, esD, epD, hoD, hdD, _⟩ := hns.count hw
  have I : W.InstAt hp x { cls := .ref C, dict := some dx, data := .fields fv } C (some oD) := ⟨hx, rfl, rfl, hoD⟩
  have SF := F.store_object
  have ne := refsEx_ne hm
  have hob : cd.mro.contains (.type "object") = true := (refsEx_contains "object" _ hm).trans (by decide +kernel)
  have sub : W.Looks (model prog w) hp (isInstance (.ref x) (.type "object")) true := I.type.andThen (W.looks_mroIn X (by unfold W.mroIn; rw [hcd, Option.bind_some, if_neg (by rw [ne]; decide), hob]))
  refine codeAny_call_builtin SF.slot.plain SF.entry (@W.check_slot (model prog w) _ _ ⟨hp, g, d, t, os⟩ "object.__setattr__" "object" "__setattr__" (.ref x) [.str name tk, v] [] _ SF.kind SF.split sub (SF.args (.ref x) (.str name tk) v) ?_)
  have hmr : W.Looks (model prog w) hp (mroOf (.ref C)) cd.mro := (W.looks_clsIn X hcd).andThen .now
  have L3 : W.Looks (model prog w) hp (storeTaker? none) none := .now
  have hcls : W.Looks (model prog w) hp (classData C) cd := W.looks_clsIn X hcd
  rw [W.osa_eq, refuse_eq]
  refine wpAny_bind (wpAny_bind (I.type.at (wpAny_bind (hmr.at ?_))))
  rw [refsEx_pass _ _ hm]
  refine wpAny_pure (wpAny_bind (I.type.at (wpAny_bind ((W.looks_findIn X ha).at (wpAny_bind (L3.at ?_))))))
  show wpAny _ _ (storeInOwnDict (.ref x) (.ref C) (.str name tk) name v false) _ _ _
  obtain ⟨nm, bs, mro, ns, qn, hd, sn, sb, ab, col, del⟩ := cd
  dsimp only at hh
  subst hh
  unfold storeInOwnDict ownDictForStores
  repeat (first | with_reducible refine PySem.OEX.store_in_old hns hw hz ?_ | with_reducible refine wpAny_loadPart_at hx ?_ | with_reducible refine hcls.at ?_ | wp_step)
  intro h' tk' hn' hs
  exact hq h' tk' (fun b o hb ho => (hs.2 b hb).trans ho) hn'
end
theorem typ_Ex : typeOf (.type "Exception") = pure (.type "type") := by kernel_rfl
end SDX

namespace SDX
open PySem PySem.Spec PyProof.Rows L2
/-- what the written part says of the class -/
structure ExC (K : PySem.W.Frag) (C : Addr) : Prop where
  cls : ∃ nm q N bs bm sn sub ab col dd k0 k1 k2 k3 k5, K.lookup C = some (excClassObj nm q C N bs bm true sn sub ab col dd k0 k1 k2 k3 k5 "Exception.__new__") ∧ refsEx bm = true
  sa : PySem.W.findIn K (.ref C) "__setattr__" = some (some (.builtin "object.__setattr__"))
  exC : PySem.W.subIn K (.ref C) (.type "BaseException") = some true
  tyC : PySem.W.typeIn K (.ref C) = some (.type "type")
  kC : PySem.W.keepIn K (.ref C) = true
section
variable {X : Cx} {pins : List (Addr × Obj)} {σ : L2.St} {H : Hp} {s : Shared} {a C dx : Addr} {f : Str} {y : V} {u : Value} {fs : List (Str × V)} {Q : Unit → Shared → Prop} {E : Value → Shared → Prop} {A : Around}
/-- self.f = y, the first one -/
theorem xst_new (T : ExC X.K C) (I : Inv X pins σ H s) (e : H a = some (exo a C none)) (hno : PySem.W.findIn X.K (.ref C) f = some none) (ry : RelV y u)
    (h : ∀ dx s', H dx = none → dx ≠ a → Inv X pins σ (upd (upd H dx (exd dx [(f, y)])) a (exo a C (some dx))) s' → Q () s') : wpAny (model X.prog X.w) A (setAttr (.ref a) f u) Q E s := by
  obtain ⟨nm, q, N, bs, bm, sn, sub, ab, col, dd, k0, k1, k2, k3, k5, hC, hbm⟩ := T.cls
  have hcl : PySem.W.clsIn X.K C = some { name := nm, bases := bs, mro := .ref C :: bm, ns := N, qualname := q, hasDict := true, slotNames := sn, subclasses := sub, abstract := ab, collection := col, hasDel := false } := by unfold PySem.W.clsIn; rw [hC] <;> rfl
  obtain ⟨t1, ho⟩ := exo_at I.hok e
  obtain ⟨hp, g, d, t, os⟩ := s
  refine PySem.W.set_plain I.kIn (ox := { cls := .ref C, dict := none, data := .fields #[.ref t1, .none, .none, .none, .bool false, .none] }) (od := none) ⟨ho, rfl, rfl, trivial⟩ T.sa ?_
  refine exc_osa I.kIn ho hcl (show refsEx (.ref C :: bm) = true from hbm) rfl hno (fun h' tk' dx k dn dne hx hn => ?_)
  have hnd : H dx = none := I.hok.fresh dn
  have nd : ∀ {b : Addr} {o : Obj}, hp.get? b = some o → b ≠ dx := fun {b o} q => Nat.ne_of_lt (Nat.lt_of_lt_of_le (Heap.lt_size q) dn)
  have na : ∀ {b : Addr}, H b = none → b ≠ a := fun {b} n z => by
    rw [z, e] at n
    cases n
  have Un1 : Un X.fs [] H (upd (upd H dx (exd dx [(f, y)])) a (exo a C (some dx))) hp h' := {
    keep := fun b o q n _ _ => k b o (na n) q
    slot := fun b o q n _ _ => ⟨o.slots, k b o (na n) q⟩
    free := fun b o q n _ => by rw [upd_ne (na n), upd_ne (nd q)]; exact n
    there := fun b o q _ => by
      by_cases hb : b = a
      · exact ⟨_, by rw [hb]; exact hx⟩
      · exact ⟨o, k b o hb q⟩
    tups := fun b xs q => by rw [upd_ne (at_ne e q exo_tup), upd_ne (ne_of_none q hnd)]; exact q
    frzs := fun b o v q => by rw [upd_ne (at_ne e q exo_frz), upd_ne (ne_of_none q hnd)]; exact q
    tbls := fun b ps q => ⟨#[], by rw [upd_ne (at_ne e q exo_tbl), upd_ne (ne_of_none q hnd), q]; simp⟩ }
  refine h dx _ hnd dne (I.un (t' := tk') Un1 fun b o q => ?_)
  by_cases hb : b = a
  · subst hb
    rw [upd_same] at q
    cases q
    exact exo_ok hx
  · rw [upd_ne hb] at q
    by_cases hd : b = dx
    · subst hd
      rw [upd_same] at q
      cases q
      exact exd_ok hn (relO_put (fs := []) ry fun g => True.intro)
    · rw [upd_ne hd] at q
      exact (I.hok b o q).stay (fun c v hc z => k c v (by
          rcases hc with hc | hc
          · rw [hc]
            exact hb
          · exact at_ne e hc exo_own) z)
        (fun c hc => by rw [upd_ne (at_ne e hc exo_own), upd_ne (ne_of_none hc hnd)]; exact hc) (fun c xs hc => by rw [upd_ne (at_ne e hc exo_tup), upd_ne (ne_of_none hc hnd)]; exact hc)
/-- self.f = y, a further one -/
theorem xst_old (T : ExC X.K C) (I : Inv X pins σ H s) (e : H a = some (exo a C (some dx))) (ed : H dx = some (exd dx fs)) (hl : fs.length ≤ 900) (hno : PySem.W.findIn X.K (.ref C) f = some none) (ry : RelV y u)
    (h : ∀ s', Inv X pins σ (upd H dx (exd dx ((f, y) :: fs))) s' → Q () s') : wpAny (model X.prog X.w) A (setAttr (.ref a) f u) Q E s := by
  obtain ⟨nm, q, N, bs, bm, sn, sub, ab, col, dd, k0, k1, k2, k3, k5, hC, hbm⟩ := T.cls
  have hcl : PySem.W.clsIn X.K C = some { name := nm, bases := bs, mro := .ref C :: bm, ns := N, qualname := q, hasDict := true, slotNames := sn, subclasses := sub, abstract := ab, collection := col, hasDel := false } := by unfold PySem.W.clsIn; rw [hC] <;> rfl
  obtain ⟨t1, ho⟩ := exo_at I.hok e
  obtain ⟨mA, hns, rel⟩ := exd_at I.hok ed
  have hw := within_of rel
  obtain ⟨hp, g, d, t, os⟩ := s
  obtain ⟨oD, _, _, hoD, _, _⟩ := hns.count hw
  refine PySem.W.set_plain I.kIn (ox := { cls := .ref C, dict := some dx, data := .fields #[.ref t1, .none, .none, .none, .bool false, .none] }) (od := some oD) ⟨ho, rfl, rfl, hoD⟩ T.sa ?_
  refine osa_old I.kIn ho hns hw (by rw [List.length_map]; omega) hcl (show refsEx (.ref C :: bm) = true from hbm) rfl hno (fun h' tk' k hn => ?_)
  have hd : ∃ o, h'.get? dx = some o := by
    obtain ⟨o, _, _, e', _⟩ := hn
    exact ⟨o, e'⟩
  exact h _ (I.write (t' := tk') (x := dx) (e := dx) (o := exd dx ((f, y) :: fs)) (by rw [ed]; exact True.intro) (.inl rfl) k hd (exd_ok hn (relO_put ry rel)))
/-- Exception.__init__(self, ..): nothing of it is told -/
theorem xinit_ok {us : List Value} {Q : Value → Shared → Prop} (T : ExC X.K C) (I : Inv X pins σ H s) (e : H a = some (exo a C none)) (hl : us.length ≤ sizeLine) (h : ∀ s', Inv X pins σ H s' → Q .none s') :
    wpAny (model X.prog X.w) A (call (.builtin "Exception.__init__") (.ref a :: us)) Q E s := by
  obtain ⟨nm, q, N, bs, bm, sn, sub, ab, col, dd, k0, k1, k2, k3, k5, hC, hbm⟩ := T.cls
  obtain ⟨t1, ho⟩ := exo_at I.hok e
  obtain ⟨hp, g, d, t, os⟩ := s
  refine wpAny_call (PySem.HandSPX.init_base F.excBase_Exception (fun Y => refsEx_contains Y bm hbm) (I.kIn _ _ hC) ho hl fun h' t2 k hx => ?_)
  have J := I.write (t' := t) (x := a) (e := a) (o := exo a C none) (by rw [e]; exact True.intro) (.inl rfl) k ⟨_, hx⟩ (exo_ok hx)
  have eu : upd H a (exo a C none) = H := by
    funext b
    by_cases hb : b = a
    · rw [hb, upd_same, e]
    · rw [upd_ne hb]
  rw [eu] at J
  exact h _ J
end

/-! ### readings and rules -/
/-- Exception.__init__(self, ..) -/
def tExI (K : PySem.W.Frag) (ta : TA) : TE := fun σ H Q => ta σ H fun vs H1 => ∃ (a C : Addr) (ws : List V), vs = .ref a :: ws ∧ ws.length ≤ 1000 ∧ ExC K C ∧ H1 a = some (exo a C none) ∧ Q .non H1
/-- self.f = e -/
def tXst (K : PySem.W.Frag) (f : Str) (to te : TE) : TS := fun D σ H => te σ H fun y H1 => to σ H1 fun x H2 => ∃ a C : Addr, x = .ref a ∧ ExC K C ∧ PySem.W.findIn K (.ref C) f = some none ∧
  ((H2 a = some (exo a C none) ∧ ∀ dx, H2 dx = none → dx ≠ a → D.nx σ (upd (upd H2 dx (exd dx [(f, y)])) a (exo a C (some dx)))) ∨
    ∃ (dx : Addr) (fs : List (Str × V)), H2 a = some (exo a C (some dx)) ∧ H2 dx = some (exd dx fs) ∧ fs.length ≤ 900 ∧ D.nx σ (upd H2 dx (exd dx ((f, y) :: fs))))
/-- C(e, ..), C's own __init__ keeping sp -/
def tMkX (C : Addr) (sp : Sp) (dvs : List V) (ta : TA) : L2.St → Hp → XK → Prop := fun σ H Q => ta σ H fun vs H1 => vs.length ≤ 1000 ∧ ∀ a, H1 a = none → sp (.ref a :: (vs ++ dvs)) (upd H1 a (exo a C none))
  (fun v H2 => v = .non ∧ ∃ (d : Addr) (fs : List (Str × V)), H2 a = some (exo a C (some d)) ∧ H2 d = some (exd d fs) ∧ H1 d = none ∧ Q (.ref C) (some d) (upd (del H2 a) d (.xd fs))) (fun _ _ _ => False)
section
variable {X : Cx} {o e : Expr} {es : List Expr} {to te : TE} {ta : TA} {f : Str} {p p' p1 p2 pos : Pos}
theorem pe_exinit {pl : Sem Bool} (hg : Gl X "Exception") (hm : X.mg "Exception" = none) (vV : PySem.W.findCls X.K (.type "Exception") (.type "type") "__init__" = some (.val (.builtin "Exception.__init__"))) (ha : PA X (e :: es) ta)
    (hc : eval (.Call (.Attribute (.Name "Exception" p1) "__init__" p2) (e :: es) [] pos) X.env = (do
      let ov ← eval (.Name "Exception" p1) X.env
      standAt p2.atName
      let (f, first) ← holding [ov] (getMethod ov "__init__" pl)
      callWith pos f first (backTo pos (starEach (e :: es) X.env)) (backToKw pos (keywordEach [] X.env))) := by rfl)
    (he : starEach (e :: es) X.env = (false, eval e X.env) :: starEach es X.env := by rfl) (hpl : (backTo pos (starEach es X.env)).any (·.1) = false := by rfl) :
    PE X (.Call (.Attribute (.Name "Exception" p1) "__init__" p2) (e :: es) [] pos) (tExI X.K ta) := by
  refine ⟨fun pins s σ H Q I h => ?_⟩
  refine PySem.W.methodCall_KW (ld_blt I hg hm PyProof.Rows.Boot.«Exception» ?_ (by decide) (by decide)) hc
  obtain ⟨m, fr⟩ := I.fr
  refine PySem.W.method_type fr I.ok.mod.kin typ_Ex (by decide +kernel) vV (by decide +kernel) ?_
  show wpAny _ _ (callWith pos (Value.builtin "Exception.__init__") [] (backTo pos (starEach (e :: es) X.env)) []) _ _ _
  refine PyProof.Rows.callWith_method1 (thn (ha.run pos pins _ σ H _ (I.tok _) h) fun us s1 ⟨vs, H1, I1, r1, a, C, ws, ev, hl, T, ea, q⟩ => ?_) he hpl
  subst ev
  cases r1 with
  | @cons _ u0 _ ur ra rw' =>
    obtain rfl : u0 = Value.ref a := ra
    have hlen : ur.length ≤ sizeLine := by
      rw [← Paired.length rw', sizeLine_eq]
      omega
    exact xinit_ok T I1 ea hlen fun s' J => ⟨.non, H1, J, rfl, q⟩
theorem ps_xst (ho : PE X o to) (he : PE X e te) (hs : swapsWith e (some (.Attribute o f p')) pos.line X.env = pure false := by rfl) : PS X (.Assign [.Attribute o f p'] e pos) (tXst X.K f to te) := by
  refine ⟨fun pins s σ H D I h => ?_⟩
  refine plainObj_wpAny_Assign_Attribute (thn (he.run pins s σ H _ I h) fun v s1 ⟨y, H1, I1, r1, q1⟩ => thn (ho.run pins s1 σ H1 _ I1 q1) fun u s2 ⟨x, H2, I2, r2, a, C, ex, T, hno, q⟩ => ?_) hs
  subst ex
  obtain rfl : u = Value.ref a := r2
  rcases q with ⟨ea, q⟩ | ⟨dx, fs, ea, ed, hl, q⟩
  · exact xst_new T I2 ea hno r1 fun dx s' n ne J => ⟨σ, _, J, q dx n ne⟩
  · exact xst_old T I2 ea ed hl hno r1 fun s' J => ⟨σ, _, J, q⟩
theorem pmk_ex {CX : CXT} {x : Str} {C fI : Addr} {k : Nat} {fd : FuncData} {ps : List Str} {sp : Sp} {ds : List Value} {dvs : List V} (T : ExC X.K C) (iC : PySem.W.findIn X.K (.ref C) "__init__" = some (some (.ref fI))) (tI : PySem.W.typeIn X.K (.ref fI) = some (.type "function"))
    (F1 : FnOk X.prog X.w X.K X.mg X.base CX k fI fd ps sp) (hr : Room (k + 1) X.A) (hb : Binds X.K fd ps ds) (hd : Vals dvs ds) (hx : Passes CX X (fun _ _ _ => False)) (hg : Gl X x) (hm : X.mg x = some (.ref C)) (ha : PA X (e :: es) ta)
    (hdb : (x == ("__debug__" : Str)) = false := by decide) (he : starEach (e :: es) X.env = (false, eval e X.env) :: starEach es X.env := by rfl) (hpl : (backTo pos (starEach es X.env)).any (·.1) = false := by rfl) :
    PMk X (.Call (.Name x p) (e :: es) [] pos) (tMkX C sp dvs ta) := by
  intro pins s σ H Q I h
  obtain ⟨nm, q, N, bs, bm, sn, sub, ab, col, dd, k0, k1, k2, k3, k5, hC, hbm⟩ := T.cls
  refine wpAny_Call_Name_kw (ld_glob I hg hm ?_ hdb)
  refine PySem.W.callWith_K (h₀ := X.base) I.ok.mod.kin T.kC (thn (ha.run pos pins s σ H _ I h) fun us s1 ⟨vs, H1, I1, r1, hz, q1⟩ => ⟨I1.kIn, ?_⟩) he hpl
  show wpAny _ _ (call (.ref C) us) _ _ _
  obtain ⟨hp, g, dr, tk, os⟩ := s1
  have hsz : hp.objs.size ≤ hp.objs.size + 1 := Nat.le_succ _
  have hn : H1 (hp.objs.size + 1) = none := I1.hok.fresh hsz
  have hq := q1 (hp.objs.size + 1) hn
  have kk : ∀ b o, hp.get? b = some o → ((hp.push (PySem.W.kdv_tup us)).push (PySem.HandSPX.excO C hp.objs.size)).get? b = some o := fun b o e => Heap.get?_push_of_some _ (Heap.get?_push_of_some _ e)
  have hget : ((hp.push (PySem.W.kdv_tup us)).push (PySem.HandSPX.excO C hp.objs.size)).get? (hp.objs.size + 1) = some (PySem.HandSPX.excO C hp.objs.size) := by heap_get
  have I2 : Inv X pins σ (upd H1 (hp.objs.size + 1) (exo (hp.objs.size + 1) C none)) ⟨(hp.push (PySem.W.kdv_tup us)).push (PySem.HandSPX.excO C hp.objs.size), g, dr, tk, os⟩ :=
    I1.laid (t' := tk) (a := hp.objs.size + 1) (o := exo (hp.objs.size + 1) C none) (h' := (hp.push (PySem.W.kdv_tup us)).push (PySem.HandSPX.excO C hp.objs.size)) kk hsz (exo_ok hget)
  have r2 : Vals (V.ref (hp.objs.size + 1) :: (vs ++ dvs)) (Value.ref (hp.objs.size + 1) :: (us ++ ds)) := .cons rfl (r1.append hd)
  have hl : (Value.ref (hp.objs.size + 1) :: us ++ ds).length = ps.length := by
    have e := r2.length
    rw [F1.len _ _ _ _ hq] at e
    exact e.symm
  have hus : us.length ≤ sizeLine := by
    rw [← Paired.length r1, sizeLine_eq]
    omega
  refine wpAny_call (PySem.HandSPX.call_own F.excBase_Exception (fun Y => refsEx_contains Y bm hbm) (I1.kIn _ _ hC) (PySem.W.looks_findIn I1.kIn iC) (fun self => PySem.W.bind_fn I1.kIn self tI) hus
    (codeAny_mono (F1.run _ X.stack _ _ ⟨Value.ref (hp.objs.size + 1) :: us, []⟩ (Value.ref (hp.objs.size + 1) :: (us ++ ds)) _ _ (fun _ _ _ => False) (hr.make C us []) (I2.env0.make C us []) (hb _ (Value.ref (hp.objs.size + 1) :: us) I2.kIn hl) r2 hq) fun r s' hq' => ?_))
  cases r with
  | error er => exact hx pins σ _ _ er s' I2 hq'
  | ok fl =>
    cases fl with
    | ret u =>
      obtain ⟨v, H2, os2, bare2, un2, hok2, rv, ev, d, fs, ea, ed, hd1, q2⟩ := hq'
      subst ev
      obtain ⟨h2, g2, d2, t2, os'⟩ := s'
      exact ⟨rv, mk_end (raises_own T.exC T.tyC) I1 hsz kk un2 hok2 os2 bare2 ea ed hd1 q2⟩
    | next => exact False.elim hq'
    | brk => exact False.elim hq'
    | cont => exact False.elim hq'
end
section
variable {X : Cx} {CXt : CXT} {e : Expr} {es : List Expr} {t : TA} {x m : Str} {C f : Addr} {mc : Value} {k : Nat} {fd : FuncData} {ps : List Str} {sp : Sp} {ds : List Value} {dvs : List V} {E : XK} {p p2 pos : Pos} {pl : Sem Bool}
/-- C.m(e, ..), C a class of the text, m a def of it -/
theorem pe_cfun (F : FnOk X.prog X.w X.K X.mg X.base CXt k f fd ps sp) (hr : Room k X.A) (hg : Gl X x) (hm : X.mg x = some (.ref C)) (cr : ClX.CRead X.K C mc) (cv : PySem.W.findCls X.K (.ref C) mc m = some (.val (.ref f)))
    (hk : PySem.W.keepIn X.K (.ref f) = true) (hb : Binds X.K fd ps ds) (hd : Vals dvs ds) (hx : Passes CXt X E) (ha : PA X (e :: es) t)
    (hdb : (x == ("__debug__" : Str)) = false := by decide) (hst : starEach (e :: es) X.env = (false, eval e X.env) :: starEach es X.env := by rfl) (hpl : (backTo pos (starEach es X.env)).any (·.1) = false := by rfl)
    (ht : eval (.Call (.Attribute (.Name x p) m p2) (e :: es) [] pos) X.env = (do
      let ov ← eval (.Name x p) X.env
      standAt p2.atName
      let (g, first) ← holding [ov] (getMethod ov m pl)
      callWith pos g first (backTo pos (starEach (e :: es) X.env)) (backToKw pos (keywordEach [] X.env))) := by rfl) :
    PE X (.Call (.Attribute (.Name x p) m p2) (e :: es) [] pos) (tCall sp dvs E t) := by
  refine ⟨fun pins s σ H Q I h => ?_⟩
  refine PySem.W.methodCall_KW (pl := pl) (ld_glob I hg hm ?_ hdb) ht
  refine PySem.W.method_cls I.kIn cr.ga (ClX.getcval_ok (v := V.ref f) I cr ⟨cv, rfl⟩ fun s2 I2 => ?_)
  refine PySem.W.callWith_K (h₀ := X.base) I2.ok.mod.kin hk (thn (ha.run pos pins s2 σ H _ I2 h) fun us s3 ⟨vs, H1, I3, r, q⟩ => ⟨I3.kIn, ?_⟩) hst hpl
  exact run_fn F hr hb hd hx I3 r q
end
end SDX
set_option Elab.async false
set_option linter.all false
set_option maxRecDepth 100000
set_option maxHeartbeats 4000000
namespace SDX
open PySem PySem.Spec PyProof.Rows L2
section
variable {X : Cx} {CX : CXT} {x : Str} {e : Expr} {es : List Expr} {ta : TA} {p pos : Pos} {C fI : Addr} {k : Nat} {fd : FuncData} {ps : List Str} {sp : Sp}
/-- the made error at a, its dict at d -/
theorem mk_endN {pins : List (Addr × Obj)} {σ : L2.St} {H1 H2 : Hp} {Q : XK} {hp hp2 h2 : Heap} {g1 g2 : Array GenState} {d1 d2 : Drawn} {t1 t2 : Nat} {os1 os2 : OsState} {a C d : Addr} {fs : List (Str × V)} (T : Raises X (.ref C)) (I1 : Inv X pins σ H1 ⟨hp, g1, d1, t1, os1⟩)
    (ha : hp.objs.size ≤ a) (k : ∀ b o, hp.get? b = some o → hp2.get? b = some o) (un : Un (frs X.stack) [] (upd H1 a (exo a C none)) H2 hp2 h2) (hok : HOk X.prog X.w H2 h2) (ho : os2 = os1) (hb : AllBare g2)
    (ea : H2 a = some (exo a C (some d))) (ed : H2 d = some (exd d fs)) (hd1 : H1 d = none) (q : Q (.ref C) (some d) (upd (del H2 a) d (.xd fs))) : L2N.MkP X pins σ Q (.ref a) ⟨h2, g2, d2, t2, os2⟩ := by
  obtain ⟨t0, G, J, kG, ge, hoe, na⟩ := mk_end0 (d2 := d2) (t2 := t2) I1 ha k un hok ho hb ea ed hd1
  exact ⟨a, _, _, ⟨G, g2, d2, t2, os2⟩, _, .ref C, some d, rfl, J, kG, ge, hoe, ⟨rfl, rfl, fun vs e => by cases e; rfl⟩, rfl, rfl, na, rfl, hb, T, q⟩
/-- C(..) of values that are reckoned already -/
theorem call_ex {pins : List (Addr × Obj)} {σ : L2.St} {H1 : Hp} {Q : XK} {s1 : Shared} {us : List Value} {vs : List V} (T : ExC X.K C) (iC : PySem.W.findIn X.K (.ref C) "__init__" = some (some (.ref fI))) (tI : PySem.W.typeIn X.K (.ref fI) = some (.type "function"))
    (F1 : FnOk X.prog X.w X.K X.mg X.base CX k fI fd ps sp) (hr : Room (k + 1) X.A) (hb : Binds X.K fd ps []) (hx : Passes CX X (fun _ _ _ => False)) (I1 : Inv X pins σ H1 s1) (r1 : Vals vs us) (hz : vs.length ≤ 1000)
    (q1 : ∀ a, H1 a = none → sp (.ref a :: vs) (upd H1 a (exo a C none))
      (fun v H2 => v = .non ∧ ∃ (d : Addr) (fs : List (Str × V)), H2 a = some (exo a C (some d)) ∧ H2 d = some (exd d fs) ∧ H1 d = none ∧ Q (.ref C) (some d) (upd (del H2 a) d (.xd fs))) (fun _ _ _ => False)) :
    wpAny (model X.prog X.w) X.A (call (.ref C) us) (L2N.MkP X pins σ Q) X.xe s1 := by
  obtain ⟨nm, q, N, bs, bm, sn, sub, ab, col, dd, k0, k1, k2, k3, k5, hC, hbm⟩ := T.cls
  obtain ⟨hp, g, dr, tk, os⟩ := s1
  have hsz : hp.objs.size ≤ hp.objs.size + 1 := Nat.le_succ _
  have hn : H1 (hp.objs.size + 1) = none := I1.hok.fresh hsz
  have hq := q1 (hp.objs.size + 1) hn
  have kk : ∀ b o, hp.get? b = some o → ((hp.push (PySem.W.kdv_tup us)).push (PySem.HandSPX.excO C hp.objs.size)).get? b = some o := fun b o e => Heap.get?_push_of_some _ (Heap.get?_push_of_some _ e)
  have hget : ((hp.push (PySem.W.kdv_tup us)).push (PySem.HandSPX.excO C hp.objs.size)).get? (hp.objs.size + 1) = some (PySem.HandSPX.excO C hp.objs.size) := by heap_get
  have I2 : Inv X pins σ (upd H1 (hp.objs.size + 1) (exo (hp.objs.size + 1) C none)) ⟨(hp.push (PySem.W.kdv_tup us)).push (PySem.HandSPX.excO C hp.objs.size), g, dr, tk, os⟩ :=
    I1.laid (t' := tk) (a := hp.objs.size + 1) (o := exo (hp.objs.size + 1) C none) (h' := (hp.push (PySem.W.kdv_tup us)).push (PySem.HandSPX.excO C hp.objs.size)) kk hsz (exo_ok hget)
  have r2 : Vals (V.ref (hp.objs.size + 1) :: vs) (Value.ref (hp.objs.size + 1) :: us) := .cons rfl r1
  have hl : (Value.ref (hp.objs.size + 1) :: us ++ []).length = ps.length := by
    have e := r2.length
    rw [F1.len _ _ _ _ hq] at e
    rw [List.append_nil]
    exact e.symm
  have hus : us.length ≤ sizeLine := by
    rw [← Paired.length r1, sizeLine_eq]
    omega
  have b2 := hb ⟨(hp.push (PySem.W.kdv_tup us)).push (PySem.HandSPX.excO C hp.objs.size), g, dr, tk, os⟩ (Value.ref (hp.objs.size + 1) :: us) I2.kIn hl
  rw [List.append_nil] at b2
  refine wpAny_call (PySem.HandSPX.call_own F.excBase_Exception (fun Y => refsEx_contains Y bm hbm) (I1.kIn _ _ hC) (PySem.W.looks_findIn I1.kIn iC) (fun self => PySem.W.bind_fn I1.kIn self tI) hus
    (codeAny_mono (F1.run _ X.stack _ _ ⟨Value.ref (hp.objs.size + 1) :: us, []⟩ (Value.ref (hp.objs.size + 1) :: us) _ _ (fun _ _ _ => False) (hr.make C us []) (I2.env0.make C us []) b2 r2 hq) fun r s' hq' => ?_))
  cases r with
  | error er => exact hx pins σ _ _ er s' I2 hq'
  | ok fl =>
    cases fl with
    | ret u =>
      obtain ⟨v, H2, os2, bare2, un2, hok2, rv, ev, d, fs, ea, ed, hd1, q2⟩ := hq'
      subst ev
      obtain ⟨h2, g2, d2, t2, os'⟩ := s'
      exact ⟨rv, mk_endN (raises_own T.exC T.tyC) I1 hsz kk un2 hok2 os2 bare2 ea ed hd1 q2⟩
    | next => exact False.elim hq'
    | brk => exact False.elim hq'
    | cont => exact False.elim hq'
/-- what C(e, ..) asks: its own __init__ keeps sp -/
def tMkN (C : Addr) (sp : Sp) (ta : TA) : L2.St → Hp → XK → Prop := fun σ H Q => ta σ H fun vs H1 => vs.length ≤ 1000 ∧ ∀ a, H1 a = none → sp (.ref a :: vs) (upd H1 a (exo a C none))
  (fun v H2 => v = .non ∧ ∃ (d : Addr) (fs : List (Str × V)), H2 a = some (exo a C (some d)) ∧ H2 d = some (exd d fs) ∧ H1 d = none ∧ Q (.ref C) (some d) (upd (del H2 a) d (.xd fs))) (fun _ _ _ => False)
theorem pmk_exN (T : ExC X.K C) (iC : PySem.W.findIn X.K (.ref C) "__init__" = some (some (.ref fI))) (tI : PySem.W.typeIn X.K (.ref fI) = some (.type "function"))
    (F1 : FnOk X.prog X.w X.K X.mg X.base CX k fI fd ps sp) (hr : Room (k + 1) X.A) (hb : Binds X.K fd ps []) (hx : Passes CX X (fun _ _ _ => False)) (hg : Gl X x) (hm : X.mg x = some (.ref C)) (ha : PA X (e :: es) ta)
    (hdb : (x == ("__debug__" : Str)) = false := by decide) (he : starEach (e :: es) X.env = (false, eval e X.env) :: starEach es X.env := by rfl) (hpl : (backTo pos (starEach es X.env)).any (·.1) = false := by rfl) :
    L2N.PMk X (.Call (.Name x p) (e :: es) [] pos) (tMkN C sp ta) := by
  intro pins s σ H Q I h
  refine wpAny_Call_Name_kw (ld_glob I hg hm ?_ hdb)
  refine PySem.W.callWith_K (h₀ := X.base) I.ok.mod.kin T.kC (thn (ha.run pos pins s σ H _ I h) fun us s1 ⟨vs, H1, I1, r1, hz, q1⟩ => ⟨I1.kIn, ?_⟩) he hpl
  exact call_ex T iC tI F1 hr hb hx I1 r1 hz q1
theorem pmk_exN0 (T : ExC X.K C) (iC : PySem.W.findIn X.K (.ref C) "__init__" = some (some (.ref fI))) (tI : PySem.W.typeIn X.K (.ref fI) = some (.type "function"))
    (F1 : FnOk X.prog X.w X.K X.mg X.base CX k fI fd ps sp) (hr : Room (k + 1) X.A) (hb : Binds X.K fd ps []) (hx : Passes CX X (fun _ _ _ => False)) (hg : Gl X x) (hm : X.mg x = some (.ref C))
    (hdb : (x == ("__debug__" : Str)) = false := by decide) : L2N.PMk X (.Call (.Name x p) [] [] pos) (tMkN C sp tNil) := by
  intro pins s σ H Q I h
  refine wpAny_Call_Name_kw (ld_glob I hg hm ?_ hdb)
  obtain ⟨hz, q1⟩ := h
  exact PySem.W.callWith_K0 I.kIn T.kC (call_ex (us := []) T iC tI F1 hr hb hx I .nil hz q1)
end

/-! ### defs that may raise (an error whose context is None), defs that are called while an error is handled -/
section
variable {P : Program} {w : World} {K : PySem.W.Frag} {mg : Str → Option Value} {base : Heap}
theorem okN {x qual : Str} {st : Stmt} {f : Addr} {fd : FuncData} {N ps : List Str} {k : Nat} {sp : Sp} (F : L2.Fun K x qual st f fd) (S : FnScope N ps (defScope st)) (len : ∀ vs H Q E, sp vs H Q E → vs.length = ps.length)
    (hbody : ∀ (cdv : Value) (A : Around) (outer : List Env) (s : Shared) (H : Hp) (vs : List V) (Q : VK) (E : XK), Room k (A.deeper (envOfC qual (defScope st) s.heap.objs.size f cdv)) → sp vs H Q E →
      ∃ t, PSs (cxOf (L2N.CX P w) P w K mg base N qual (defScope st) f cdv A outer s H E) (defBody st) t ∧ t { nx := fun _ H' => Q .non H', rt := Q } (start N vs) H) : FnOk P w K mg base (L2N.CX P w) (k + 1) f fd ps sp := by
  obtain ⟨oc, od, kV, doc, pm, an, cdv, ct, osl, rfl, lk, hcd⟩ := F.ex
  exact fn_of lk hcd S len fun A outer s H vs Q E hr hsp => hbody cdv A outer s H vs Q E hr hsp
theorem okH {CX : CXT} {x qual : Str} {st : Stmt} {f : Addr} {fd : FuncData} {N ps : List Str} {k : Nat} {sp : Sp} (F : L2.Fun K x qual st f fd) (S : FnScope N ps (defScope st)) (len : ∀ vs H Q E, sp vs H Q E → vs.length = ps.length)
    (hbody : ∀ (cdv : Value) (A : Around) (outer : List Env) (s : Shared) (H : Hp) (vs : List V) (Q : VK) (E : XK) (p : Addr × Obj), L2H.Hot1 A p → L2H.RoomH k (A.deeper (envOfC qual (defScope st) s.heap.objs.size f cdv)) → sp vs H Q E →
      ∃ t, PSs (L2H.cxH CX P w K mg base N qual (defScope st) f cdv A outer s H E p) (defBody st) t ∧ t { nx := fun _ H' => Q .non H', rt := Q } (start N vs) H) : L2H.FnH P w K mg base CX (k + 1) f fd ps sp := by
  obtain ⟨oc, od, kV, doc, pm, an, cdv, ct, osl, rfl, lk, hcd⟩ := F.ex
  exact L2H.fn_ofH lk hcd S len fun A outer s H vs Q E p hot hr hsp => hbody cdv A outer s H vs Q E p hot hr hsp
theorem takesN0 {X : Cx} : L2N.Takes X (fun _ _ _ _ => False) := fun _ _ x => by
  obtain ⟨_, _, _, _, _, _, _, _, _, _, _, _, _, _, _, _, z⟩ := x
  exact z.elim
theorem passN0 {X : Cx} : Passes (L2N.CX X.prog X.w) X E0 := fun _ _ _ _ _ _ _ h => by
  obtain ⟨_, _, _, _, _, _, _, _, _, _, _, _, z⟩ := h
  exact z.elim
/-- in the body of a def that may raise: what a def that it calls lets out is let out -/
theorem passN {N : List Str} {qual : Str} {sc : Scope} {f : Addr} {cdv : Value} {A : Around} {outer : List Env} {s : Shared} {H : Hp} {E : XK} :
    Passes (L2N.CX P w) (cxOf (L2N.CX P w) P w K mg base N qual sc f cdv A outer s H E) E :=
  L2N.passes_call (X := cxOf (L2N.CX P w) P w K mg base N qual sc f cdv A outer s H E) (E := E) (L2N.takes_of rfl rfl rfl rfl) (fun _ _ _ _ h => h)
end

/-! ### a field of the error that the suite holds, whatever its class -/
def tXfA (K : PySem.W.Frag) (a : Addr) (cls : Value) (d : Option Addr) (f : Str) (te : TE) : TE := fun σ H Q => te σ H fun x H1 => x = .ref a ∧ ∃ C : Addr, cls = .ref C ∧ XfC K C ∧ PySem.W.findIn K (.ref C) f = some none ∧
  ∃ (dd : Addr) (fs : List (Str × V)) (v : V), d = some dd ∧ H1 dd = some (.xd fs) ∧ fs.lookup f = some v ∧ Q v H1
theorem pe_xfA {X : Cx} {a : Addr} {oe : Obj} {cls : Value} {d : Option Addr} {pn : List (Addr × Obj)} {e : Expr} {te : TE} {pos : Pos} {n : Str}
    (hz : L2N.Zn cls d oe) (hf : ∃ vs, oe.data = .fields vs) (he : PE (X.suite a ((a, oe) :: pn)) e te) (hb : attributeBase e n X.env (eval e X.env) = eval e X.env := by rfl) :
    PE (X.suite a ((a, oe) :: pn)) (.Attribute e n pos) (tXfA X.K a cls d n te) := by
  refine ⟨fun pins s σ H Q I h => ?_⟩
  refine attr_of hb (thn (he.run pins s σ H _ I h) fun u s1 hh => ?_)
  obtain ⟨x, H1, I1, rx, ex, C, ec, T, hno, dd, fs, v, ed, ea, l, q⟩ := hh
  subst ex
  obtain rfl : u = Value.ref a := rx
  subst ec
  subst ed
  obtain ⟨ha, _⟩ := I1.pin (a, oe) (List.mem_append_left _ List.mem_cons_self)
  obtain ⟨vs, hd⟩ := hf
  have hx : ObjOk X.prog X.w H1 s1.heap dd (.xd fs) := I1.hok dd _ ea
  obtain ⟨mA, hns, hr⟩ := hx
  obtain ⟨od, ho, hl⟩ := lookIn_ns hns
  obtain ⟨u, hu, ru⟩ := RelO.some_of (v := v) (o := mA n) (by rw [← l]; exact hr n)
  have J : PySem.W.InstAt s1.heap a oe C (some od) := ⟨ha, hz.1, by unfold PySem.W.notCls; rw [hd] <;> rfl, by rw [hz.2.1]; exact ho⟩
  exact HandSPX.exc_get I1.kIn J T.ga T.gg T.exC (PySem.W.findObj_own T.hdC hno rfl (by rw [hl, hu])) (handed_of ru) ⟨v, H1, I1.tok _, ru, q⟩
/-- the suite of a try bears the error that is handled -/
theorem hot_suite {X : Cx} {a : Addr} {oe : Obj} {cls : Value} {d : Option Addr} {pn : List (Addr × Obj)} (hz : L2N.Zn cls d oe) (hf : ∃ vs, oe.data = .fields vs) : L2H.HotC (X.suite a ((a, oe) :: pn)) := by
  obtain ⟨vs, hd⟩ := hf
  exact ⟨(a, oe), ⟨rfl, vs, hd, hz.2.2 vs hd⟩, List.mem_cons_self⟩
end SDX
set_option linter.all false
namespace SDP
open PySem PySem.Spec PyProof.Rows L2 SDX
def top (i : Nat) : Stmt := PySem.Challenge.pw_seamdrafts_s08_ones.main.body.getD i (.Pass ⟨0, 0, 0, 0⟩)
abbrev S_upright : Stmt := top 4
abbrev S_plus : Stmt := top 5
abbrev S_minus : Stmt := top 6
abbrev S_times : Stmt := top 7
abbrev S_over : Stmt := top 8
abbrev S_negative : Stmt := top 9
abbrev S_alike : Stmt := top 10
abbrev S_lowest : Stmt := top 11
abbrev S_number_text : Stmt := top 12
abbrev S_whole_of : Stmt := top 13
abbrev S_number_of : Stmt := top 14
abbrev S_common_below : Stmt := top 21
abbrev S_whole_corners : Stmt := top 22
abbrev S_all_whole : Stmt := top 23
abbrev S_side : Stmt := top 24
abbrev S_apart : Stmt := top 25
abbrev S_have_common_point : Stmt := top 26
abbrev S_after : Stmt := top 27
abbrev S_edges_keep_apart : Stmt := top 28
abbrev S_twice_area : Stmt := top 29
abbrev S_are_corners : Stmt := top 30
abbrev S_edge_length : Stmt := top 31
abbrev S_edges_through : Stmt := top 32
abbrev S_goes_round : Stmt := top 33
abbrev S_where_among : Stmt := top 34
abbrev S_edges_at : Stmt := top 35
abbrev S_where_lies : Stmt := top 36
abbrev sRefI : Stmt := inClass (top 38) 0
abbrev sTooI : Stmt := inClass (top 39) 0
abbrev S_NoPoint_I : Stmt := inClass (top 40) 0
abbrev S_NoPattern_I : Stmt := inClass (top 41) 0
abbrev S_NoPiece_I : Stmt := inClass (top 42) 0
abbrev S_NoPlace_I : Stmt := inClass (top 43) 0
abbrev S_TooFine_I : Stmt := inClass (top 44) 0
abbrev S_ends : Stmt := top 46
abbrev S_part_of_way : Stmt := top 47
abbrev S_number_at : Stmt := top 48
abbrev S_partner : Stmt := top 49
abbrev S_partners : Stmt := top 50
abbrev S_in_order : Stmt := top 51
abbrev S_places_one_with : Stmt := top 52
abbrev sTextOf : Stmt := top 56
abbrev S_bytes_of : Stmt := top 57
abbrev S_Piece_I : Stmt := inClass (top 62) 0
abbrev S_Pattern_I : Stmt := inClass (top 63) 0
abbrev S_Pattern_has_edge : Stmt := inClass (top 63) 1
abbrev S_Pattern_is_sewn : Stmt := inClass (top 63) 2
abbrev S_Pattern_sewn_to : Stmt := inClass (top 63) 3
abbrev S_Pattern_length : Stmt := inClass (top 63) 4
abbrev S_Pattern_are_of_one_length : Stmt := inClass (top 63) 5
abbrev S_Pattern_hems : Stmt := inClass (top 63) 6
abbrev S_pieces_may_be : Stmt := top 64
abbrev S_seams_may_be : Stmt := top 65
abbrev S_line_of : Stmt := top 67
abbrev S_point_words : Stmt := top 68
abbrev S_places_text : Stmt := top 69
abbrev S_point_of_words : Stmt := top 70
abbrev S_index_of_word : Stmt := top 71
abbrev S_is_piece_name : Stmt := top 72
abbrev S_last_is_whole : Stmt := top 73
abbrev S_add_piece : Stmt := top 74
abbrev S_add_corner : Stmt := top 75
abbrev S_add_seam : Stmt := top 76
abbrev S_add_line : Stmt := top 77
abbrev S_read_pattern : Stmt := top 78
abbrev sAnsw : Stmt := top 81
abbrev sCheck : Stmt := top 82
abbrev S_number_handed_in : Stmt := top 83
abbrev S_point_handed_in : Stmt := top 84
abbrev S_piece_at : Stmt := top 85
abbrev S_check_place : Stmt := top 86
abbrev S_ones : Stmt := top 87
end SDP
set_option Elab.async false
set_option linter.all false
set_option maxRecDepth 100000
set_option maxHeartbeats 4000000
/-! # Errors -/
namespace SDP
open PySem PySem.Spec PyProof.Rows L2 SDX
/-- an error's class at C, its __init__ at f -/
structure ErrC (K : PySem.W.Frag) (mg : Str → Option Value) (x : Str) (C f : Addr) : Prop where
  g : mg x = some (.ref C)
  ex : ExC K C
  noN : PySem.W.findIn K (.ref C) "number" = some none
  noS : PySem.W.findIn K (.ref C) "signed" = some none
  iC : PySem.W.findIn K (.ref C) "__init__" = some (some (.ref f))
  tI : PySem.W.typeIn K (.ref f) = some (.type "function")
  xf : XfC K C
/-- all that was there stands -/
theorem same_new {H : Hp} {p : Addr} (h : H p = none) (o : HO) : Same H (upd H p o) := fun b u q => by rw [upd_ne (ne_of_none q h)]; exact q
def spRefI (K : PySem.W.Frag) : Sp := fun vs H Q _ => ∃ (a C l : Addr) (n : Int), vs = [.ref a, .int n, .ref l] ∧ ExC K C ∧ PySem.W.findIn K (.ref C) "number" = some none ∧ PySem.W.findIn K (.ref C) "signed" = some none ∧ H a = some (exo a C none) ∧
  ∀ dx, H dx = none → dx ≠ a → Q .non (upd (upd (upd H dx (exd dx [("number", .int n)])) a (exo a C (some dx))) dx (exd dx [("signed", .ref l), ("number", .int n)]))
section
variable {P : Program} {w : World} {K : PySem.W.Frag} {mg : Str → Option Value} {base : Heap}
theorem scRefI : FnScope ["self", "number", "signed"] ["self", "number", "signed"] (defScope sRefI) := ⟨rfl, rfl, rfl, by decide +kernel, rfl, by decide +kernel, by decide +kernel⟩
theorem ok_refI {f : Addr} {fd : FuncData} (F : L2.Fun K "__init__" "Refusal.__init__" sRefI f fd) (mE : mg "Exception" = none) (vE : PySem.W.findCls K (.type "Exception") (.type "type") "__init__" = some (.val (.builtin "Exception.__init__"))) :
    FnOk P w K mg base CX0 1 f fd ["self", "number", "signed"] (spRefI K) := by
  refine F.ok scRefI (fun vs H Q E h => ?_) (fun cdv A outer s H vs Q E hr h => ?_)
  · obtain ⟨a, C, l, n, rfl, _⟩ := h
    rfl
  obtain ⟨a, C, l, n, rfl, T, hn, hs, ha, q⟩ := h
  refine ⟨_, pss_cons (ps_expr (pe_exinit rfl mE vE (pa_cons (pv 0) (pa_cons pe_str pa_nil))))
    (pss_cons (ps_xst (pv 0) (pv 1)) (pss_one (ps_xst (pv 0) (pv 2)))), ?_⟩
  refine ⟨_, rfl, a, C, [_], rfl, by decide, T, ha, ?_⟩
  refine ⟨_, rfl, _, rfl, a, C, rfl, T, hn, .inl ⟨ha, fun dx hd hne => ?_⟩⟩
  refine ⟨_, rfl, _, rfl, a, C, rfl, T, hs, .inr ⟨dx, [(("number" : Str), V.int n)], upd_same, ?_, (by show 1 ≤ 900; decide), ?_⟩⟩
  · rw [upd_ne hne]
    exact upd_same
  · exact q dx hd hne
def spTooI (K : PySem.W.Frag) : Sp := fun vs H Q _ => ∃ (a C : Addr), vs = [.ref a] ∧ ExC K C ∧ PySem.W.findIn K (.ref C) "number" = some none ∧ PySem.W.findIn K (.ref C) "signed" = some none ∧ H a = some (exo a C none) ∧
  ∀ (d l : Addr) (H' : Hp), (∀ b o, b ≠ a → H b = some o → H' b = some o) → H d = none → l ≠ a → d ≠ a → H' a = some (exo a C (some d)) → H' d = some (exd d [("signed", .ref l), ("number", .int (-1))]) → H' l = some (.lst []) → Q .non H'
theorem scTooI : FnScope ["self"] ["self"] (defScope sTooI) := ⟨rfl, rfl, rfl, by decide +kernel, rfl, by decide +kernel, by decide +kernel⟩
theorem ok_tooI {f f1 C1 : Addr} {fd fd1 : FuncData} {mc : Value} (F : L2.Fun K "__init__" "TooLong.__init__" sTooI f fd) (F1 : L2.Fun K "__init__" "Refusal.__init__" sRefI f1 fd1) (b1 : L2.Binds K fd1 ["self", "number", "signed"] [])
    (g1 : mg "Refusal" = some (.ref C1)) (cr : ClX.CRead K C1 mc) (cv : PySem.W.findCls K (.ref C1) mc "__init__" = some (.val (.ref f1)))
    (mE : mg "Exception" = none) (vE : PySem.W.findCls K (.type "Exception") (.type "type") "__init__" = some (.val (.builtin "Exception.__init__"))) :
    FnOk P w K mg base CX0 2 f fd ["self"] (spTooI K) := by
  refine F.ok scTooI (fun vs H Q E h => ?_) (fun cdv A outer s H vs Q E hr h => ?_)
  · obtain ⟨a, C, rfl, _⟩ := h
    rfl
  obtain ⟨a, C, rfl, T, hn, hs, ha, q⟩ := h
  refine ⟨_, pss_one (ps_expr (pe_cfun (ok_refI F1 mE vE) hr rfl g1 cr cv F1.kp b1 .nil pass0 (pa_cons (pv 0) (pa_cons (pe_un un_neg pe_int) (pa_cons (pe_lst pa_nil) pa_nil))))), ?_⟩
  refine ⟨_, rfl, _, rfl, (by show 0 ≤ sizeLine; decide), fun l hl => ?_⟩
  have hla : l ≠ a := fun z => by rw [z, ha] at hl; cases hl
  refine ⟨a, C, l, -1, rfl, T, hn, hs, ?_, fun d hd hda => ?_⟩
  · rw [upd_ne (Ne.symm hla)]
    exact ha
  have hdl : d ≠ l := fun z => by rw [z, upd_same] at hd; cases hd
  have hd0 : H d = none := by rw [upd_ne hdl] at hd; exact hd
  refine q d l _ (fun b o hb hbo => ?_) hd0 hla hda ?_ upd_same ?_
  · rw [upd_ne (ne_of_none hbo hd0), upd_ne hb, upd_ne (ne_of_none hbo hd0), upd_ne (ne_of_none hbo hl)]
    exact hbo
  · rw [upd_ne (Ne.symm hda), upd_same]
  · rw [upd_ne (Ne.symm hdl), upd_ne hla, upd_ne (Ne.symm hdl), upd_same]
/-- what is wanted of an error of the class at C that tells these numbers -/
def Rs (C : Addr) (E : XK) (n : Int) (ns : List Int) : Prop := ∀ (d l : Addr) (H' : Hp), H' d = some (.xd [("signed", .ref l), ("number", .int n)]) → H' l = some (.lst (ns.map V.int)) → E (.ref C) (some d) H'
/-- the heap behind the making of an error -/
theorem rs_made {C a d l : Addr} {H1 H2 : Hp} {E : XK} {n : Int} {ns : List Int} (rs : Rs C E n ns) (hl : l ≠ a) (hd : d ≠ l)
    (h2 : H2 l = some (.lst (ns.map V.int))) : E (.ref C) (some d) (upd (del H2 a) d (.xd [("signed", .ref l), ("number", .int n)])) :=
  rs d l _ upd_same (by rw [upd_ne (Ne.symm hd), del_ne hl]; exact h2)
theorem mk_too {σ : L2.St} {H : Hp} {C f : Addr} {E : XK} (T : ErrC K mg "TooLong" C f) (rs : Rs C E (-1) []) : tMkN C (spTooI K) tNil σ H E := by
  refine ⟨by show 0 ≤ 1000; decide, fun a ha => ⟨a, C, rfl, T.ex, T.noN, T.noS, upd_same, fun d l H' keep hd hla hda ea ed el => ⟨rfl, d, _, ea, ed, ?_, ?_⟩⟩⟩
  · rw [upd_ne hda] at hd
    exact hd
  · have hdl : d ≠ l := fun z => by
      rw [z, el] at ed
      cases ed
    exact rs_made (H1 := H) rs hla hdl el
end
end SDP
set_option Elab.async false
/-! # The reading of sums and places without its fuel -/
namespace SD
open SeamNum SeamPoly SeamPattern SeamText

theorem next_ok {ε α β : Type} {a : α} {f : α → Except ε β} : next (.ok a) f = f a := rfl
theorem next_er {ε α β : Type} {e : ε} {f : α → Except ε β} : next (.error e : Except ε α) f = .error e := rfl
theorem next_cg {ε α β : Type} {x y : Except ε α} {f g : α → Except ε β} (h : x = y) (k : ∀ a, y = .ok a → f a = g a) : next x f = next y g := by
  subst h
  cases x with
  | error e => rfl
  | ok a => exact k a rfl
theorem next_is {ε α β : Type} {x : Except ε α} {f : α → Except ε β} {b : β} (h : next x f = .ok b) : ∃ a, x = .ok a ∧ f a = .ok b := by
  cases x with
  | error e => cases h
  | ok a => exact ⟨a, rfl, h⟩
theorem wrong_ne {α : Type} {t : Toks} {x : α × Toks} : (wrong t : Got α) ≠ .ok x := fun h => nomatch h
theorem sign_is {c : UInt8} {t : Toks} {x : Unit × Toks} (h : SeamText.sign c t = .ok x) : ∃ p, t = (p, .sign c) :: x.2 := by
  unfold SeamText.sign at h
  split at h
  · rename_i p d r
    by_cases e : d = c
    · rw [if_pos e] at h
      subst e
      cases h
      exact ⟨p, rfl⟩
    · rw [if_neg e] at h
      cases h
  · cases h
theorem sign_len {c : UInt8} {t : Toks} {x : Unit × Toks} (h : SeamText.sign c t = .ok x) : x.2.length + 1 = t.length := by
  obtain ⟨p, e⟩ := sign_is h
  rw [e]
  rfl

/-- how much a goal takes at least -/
def least : Goal → Nat
  | .sumMore _ => 0
  | .productMore _ => 0
  | _ => 1
theorem read_len : ∀ (f d : Nat) (g : Goal) (t : Toks) (e : E) (r : Toks), SeamText.read f d g t = .ok (e, r) → r.length + least g ≤ t.length
  | 0, d, g, t, e, r, h => by
    unfold SeamText.read at h
    cases h
  | f + 1, d, .sum, t, e, r, h => by
    unfold SeamText.read at h
    obtain ⟨a, h1, h2⟩ := next_is h
    have q1 := read_len f d _ _ a.1 a.2 h1
    have q2 := read_len f d _ _ _ _ h2
    simp only [least] at q1 q2 ⊢
    omega
  | f + 1, d, .product, t, e, r, h => by
    unfold SeamText.read at h
    obtain ⟨a, h1, h2⟩ := next_is h
    have q1 := read_len f d _ _ a.1 a.2 h1
    have q2 := read_len f d _ _ _ _ h2
    simp only [least] at q1 q2 ⊢
    omega
  | f + 1, d, .sumMore a, t, e, r, h => by
    unfold SeamText.read at h
    split at h
    · rename_i p c r1
      split at h
      · obtain ⟨b, h1, h2⟩ := next_is h
        have q1 := read_len f d _ _ b.1 b.2 h1
        have q2 := read_len f d _ _ _ _ h2
        simp only [least, List.length_cons] at q1 q2 ⊢
        omega
      · cases h
        exact Nat.le_refl _
    · cases h
      exact Nat.le_refl _
  | f + 1, d, .productMore a, t, e, r, h => by
    unfold SeamText.read at h
    split at h
    · rename_i p c r1
      split at h
      · obtain ⟨b, h1, h2⟩ := next_is h
        have q1 := read_len f d _ _ b.1 b.2 h1
        have q2 := read_len f d _ _ _ _ h2
        simp only [least, List.length_cons] at q1 q2 ⊢
        omega
      · cases h
        exact Nat.le_refl _
    · cases h
      exact Nat.le_refl _
  | f + 1, d, .factor, t, e, r, h => by
    unfold SeamText.read at h
    split at h
    · cases h
      exact Nat.le_refl _
    · rename_i p b r1
      split at h
      · split at h
        · cases h
        · obtain ⟨x, h1, h2⟩ := next_is h
          have q1 := sign_len h1
          have q2 := read_len f _ _ _ _ _ h2
          simp only [least, List.length_cons] at q2 ⊢
          omega
      · split at h
        · cases h
        · cases h
          exact Nat.le_refl _
    · rename_i p c r1
      split at h
      · split at h
        · cases h
        · obtain ⟨x, h1, h2⟩ := next_is h
          have q1 := read_len f _ _ _ x.1 x.2 h1
          cases h2
          simp only [least, List.length_cons] at q1 ⊢
          omega
      · split at h
        · split at h
          · cases h
          · obtain ⟨x, h1, h2⟩ := next_is h
            have q1 := read_len f _ _ _ x.1 x.2 h1
            obtain ⟨y, h3, h4⟩ := next_is h2
            have q2 := sign_len h3
            cases h4
            simp only [least, List.length_cons] at q1 ⊢
            omega
        · cases h
    · cases h
  | f + 1, d, .place, t, e, r, h => by
    unfold SeamText.read at h
    split at h
    · rename_i p b r1
      split at h
      · split at h
        · cases h
        · obtain ⟨x, h1, h2⟩ := next_is h
          have q1 := sign_len h1
          have q2 := read_len f _ _ _ _ _ h2
          simp only [least, List.length_cons] at q2 ⊢
          omega
      · split at h
        · cases h
        · cases h
          exact Nat.le_refl _
    · rename_i p c r1
      split at h
      · have q2 := read_len f _ _ _ _ _ h
        simp only [least, List.length_cons] at q2 ⊢
        omega
      · cases h
    · cases h
  | f + 1, d, .parts g l more, t, e, r, h => by
    unfold SeamText.read at h
    cases more with
    | nil =>
      obtain ⟨x, h1, h2⟩ := next_is h
      have q1 := sign_len h1
      cases h2
      simp only [least]
      omega
    | cons p m =>
      obtain ⟨x, h1, h2⟩ := next_is h
      have q1 := read_len f _ _ _ x.1 x.2 h1
      have q1' : x.2.length ≤ t.length := by omega
      split at h2
      · have q2 := read_len f _ _ _ _ _ h2
        simp only [least] at q2 ⊢
        omega
      · obtain ⟨y, h3, h4⟩ := next_is h2
        have q3 := sign_len h3
        have q2 := read_len f _ _ _ _ _ h4
        simp only [least] at q2 ⊢
        omega

def rank : Goal → Nat
  | .sumMore _ => 1
  | .productMore _ => 1
  | .factor => 2
  | .place => 2
  | .product => 3
  | .sum => 4
  | .parts _ _ _ => 5
theorem read_same : ∀ (n d : Nat) (g : Goal) (t : Toks), 8 * t.length + rank g ≤ n → ∀ f1 f2 : Nat, n < f1 → n < f2 → SeamText.read f1 d g t = SeamText.read f2 d g t
  | 0, d, g, t, hn, f1, f2, h1, h2 => by
    have : 1 ≤ rank g := by cases g <;> simp [rank]
    omega
  | n + 1, d, g, t, hn, 0, f2, h1, h2 => by omega
  | n + 1, d, g, t, hn, f1 + 1, 0, h1, h2 => by omega
  | n + 1, d, g, t, hn, f1 + 1, f2 + 1, h1, h2 => by
    have ih : ∀ (d : Nat) (g : Goal) (t : Toks), 8 * t.length + rank g ≤ n → SeamText.read f1 d g t = SeamText.read f2 d g t := fun d g t h => read_same n d g t h f1 f2 (by omega) (by omega)
    have ln := read_len f2
    cases g with
    | sum =>
      simp only [SeamText.read]
      simp only [rank] at hn
      refine next_cg (ih _ _ _ (by simp only [rank]; omega)) fun a ha => ?_
      have q := ln _ _ _ a.1 a.2 ha
      simp only [least] at q
      exact ih _ _ _ (by simp only [rank]; omega)
    | product =>
      simp only [SeamText.read]
      simp only [rank] at hn
      refine next_cg (ih _ _ _ (by simp only [rank]; omega)) fun a ha => ?_
      have q := ln _ _ _ a.1 a.2 ha
      simp only [least] at q
      exact ih _ _ _ (by simp only [rank]; omega)
    | sumMore a =>
      simp only [SeamText.read]
      simp only [rank] at hn
      split
      · rename_i p c r
        simp only [List.length_cons] at hn
        split
        · refine next_cg (ih _ _ _ (by simp only [rank]; omega)) fun b hb => ?_
          have q := ln _ _ _ b.1 b.2 hb
          simp only [least] at q
          exact ih _ _ _ (by simp only [rank]; omega)
        · rfl
      · rfl
    | productMore a =>
      simp only [SeamText.read]
      simp only [rank] at hn
      split
      · rename_i p c r
        simp only [List.length_cons] at hn
        split
        · refine next_cg (ih _ _ _ (by simp only [rank]; omega)) fun b hb => ?_
          have q := ln _ _ _ b.1 b.2 hb
          simp only [least] at q
          exact ih _ _ _ (by simp only [rank]; omega)
        · rfl
      · rfl
    | factor =>
      simp only [SeamText.read]
      simp only [rank] at hn
      split
      · rfl
      · rename_i p b r
        simp only [List.length_cons] at hn
        split
        · split
          · rfl
          · refine next_cg rfl fun x hx => ?_
            have q := sign_len hx
            exact ih _ _ _ (by simp only [rank]; omega)
        · rfl
      · rename_i p c r
        simp only [List.length_cons] at hn
        split
        · split
          · rfl
          · exact next_cg (ih _ _ _ (by simp only [rank]; omega)) fun _ _ => rfl
        · split
          · split
            · rfl
            · exact next_cg (ih _ _ _ (by simp only [rank]; omega)) fun _ _ => rfl
          · rfl
      · rfl
    | place =>
      simp only [SeamText.read]
      simp only [rank] at hn
      split
      · rename_i p b r
        simp only [List.length_cons] at hn
        split
        · split
          · rfl
          · refine next_cg rfl fun x hx => ?_
            have q := sign_len hx
            exact ih _ _ _ (by simp only [rank]; omega)
        · rfl
      · rename_i p c r
        simp only [List.length_cons] at hn
        split
        · exact ih _ _ _ (by simp only [rank]; omega)
        · rfl
      · rfl
    | parts g l more =>
      simp only [rank] at hn
      cases more with
      | nil => simp only [SeamText.read]
      | cons p m =>
        simp only [SeamText.read]
        refine next_cg (ih _ _ _ (by cases p <;> simp [rank] <;> omega)) fun x hx => ?_
        have q := ln _ _ _ x.1 x.2 hx
        have q' : x.2.length + 1 ≤ t.length := by
          cases p <;> exact q
        split
        · exact ih _ _ _ (by simp only [rank]; omega)
        · refine next_cg rfl fun y hy => ?_
          have q3 := sign_len hy
          exact ih _ _ _ (by simp only [rank]; omega)

/-- reading, as much fuel as is ever wanted -/
def rd (d : Nat) (g : Goal) (t : Toks) : Got E := SeamText.read (fuel t) d g t
theorem rank_le (g : Goal) : rank g ≤ 5 := by cases g <;> simp [rank]
theorem rd_of {f d : Nat} {g : Goal} {t : Toks} (h : 8 * t.length + rank g < f) : SeamText.read f d g t = rd d g t :=
  read_same _ d g t (Nat.le_refl _) f _ h (by have := rank_le g; unfold fuel; omega)
theorem rd_len {d : Nat} {g : Goal} {t : Toks} {e : E} {r : Toks} (h : rd d g t = .ok (e, r)) : r.length + least g ≤ t.length := read_len _ _ _ _ _ _ h

theorem rd_sum (d : Nat) (t : Toks) : rd d .sum t = next (rd d .product t) fun a => rd d (.sumMore a.1) a.2 := by
  show SeamText.read (8 * (t.length + 1) + 7 + 1) d .sum t = _
  obtain ⟨F, hF⟩ : ∃ F, F = 8 * (t.length + 1) + 7 := ⟨_, rfl⟩
  rw [← hF]
  simp only [SeamText.read]
  refine next_cg (rd_of (by simp only [rank]; omega)) fun a ha => ?_
  have q := rd_len (e := a.1) (r := a.2) ha
  exact rd_of (by simp only [rank, least] at q ⊢; omega)
theorem rd_product (d : Nat) (t : Toks) : rd d .product t = next (rd d .factor t) fun a => rd d (.productMore a.1) a.2 := by
  show SeamText.read (8 * (t.length + 1) + 7 + 1) d .product t = _
  obtain ⟨F, hF⟩ : ∃ F, F = 8 * (t.length + 1) + 7 := ⟨_, rfl⟩
  rw [← hF]
  simp only [SeamText.read]
  refine next_cg (rd_of (by simp only [rank]; omega)) fun a ha => ?_
  have q := rd_len (e := a.1) (r := a.2) ha
  exact rd_of (by simp only [rank, least] at q ⊢; omega)
theorem rd_sumMore_go (d : Nat) (a : E) (p : Nat) (c : UInt8) (r : Toks) (h : c = 43 ∨ c = 45) : rd d (.sumMore a) ((p, .sign c) :: r) = next (rd d .product r) fun b => rd d (.sumMore (.op c a b.1)) b.2 := by
  show SeamText.read (8 * ((r.length + 1) + 1) + 7 + 1) d (.sumMore a) _ = _
  obtain ⟨F, hF⟩ : ∃ F, F = 8 * ((r.length + 1) + 1) + 7 := ⟨_, rfl⟩
  rw [← hF]
  simp only [SeamText.read]
  rw [if_pos h]
  refine next_cg (rd_of (by simp only [rank]; omega)) fun b hb => ?_
  have q := rd_len (e := b.1) (r := b.2) hb
  exact rd_of (by simp only [rank, least] at q ⊢; omega)
/-- no + and no - stands first -/
def noSign (l : List UInt8) (t : Toks) : Prop := ∀ p c r, t = (p, .sign c) :: r → c ∉ l
theorem rd_sumMore_stop (d : Nat) (a : E) (t : Toks) (h : noSign [43, 45] t) : rd d (.sumMore a) t = .ok (a, t) := by
  show SeamText.read (8 * (t.length + 1) + 7 + 1) d (.sumMore a) _ = _
  obtain ⟨F, hF⟩ : ∃ F, F = 8 * (t.length + 1) + 7 := ⟨_, rfl⟩
  rw [← hF]
  simp only [SeamText.read]
  split
  · rename_i p c r
    have q := h p c r rfl
    rw [if_neg (by simpa using q)]
  · rfl
theorem rd_productMore_go (d : Nat) (a : E) (p : Nat) (c : UInt8) (r : Toks) (h : c = 42 ∨ c = 47) : rd d (.productMore a) ((p, .sign c) :: r) = next (rd d .factor r) fun b => rd d (.productMore (.op c a b.1)) b.2 := by
  show SeamText.read (8 * ((r.length + 1) + 1) + 7 + 1) d (.productMore a) _ = _
  obtain ⟨F, hF⟩ : ∃ F, F = 8 * ((r.length + 1) + 1) + 7 := ⟨_, rfl⟩
  rw [← hF]
  simp only [SeamText.read]
  rw [if_pos h]
  refine next_cg (rd_of (by simp only [rank]; omega)) fun b hb => ?_
  have q := rd_len (e := b.1) (r := b.2) hb
  exact rd_of (by simp only [rank, least] at q ⊢; omega)
theorem rd_productMore_stop (d : Nat) (a : E) (t : Toks) (h : noSign [42, 47] t) : rd d (.productMore a) t = .ok (a, t) := by
  show SeamText.read (8 * (t.length + 1) + 7 + 1) d (.productMore a) _ = _
  obtain ⟨F, hF⟩ : ∃ F, F = 8 * (t.length + 1) + 7 := ⟨_, rfl⟩
  rw [← hF]
  simp only [SeamText.read]
  split
  · rename_i p c r
    have q := h p c r rfl
    rw [if_neg (by simpa using q)]
  · rfl
theorem rd_num (d p n k : Nat) (r : Toks) : rd d .factor ((p, .num n k) :: r) = .ok (.num n k, r) := rfl
theorem rd_nil (d : Nat) : rd d .factor [] = wrong [] := rfl
theorem rd_name (d p : Nat) (b : Bytes) (r : Toks) (h : isWord b = false) : rd d .factor ((p, .name b) :: r) = .ok (.name b, r) := by
  have q : ofSums b = none := by
    unfold isWord at h
    cases e : ofSums b with
    | none => rfl
    | some x => rw [e] at h; simp at h
  show SeamText.read (8 * ((r.length + 1) + 1) + 7 + 1) d .factor _ = _
  obtain ⟨F, hF⟩ : ∃ F, F = 8 * ((r.length + 1) + 1) + 7 := ⟨_, rfl⟩
  rw [← hF]
  simp only [SeamText.read]
  rw [q]
  show (if isWord b = true then _ else _) = _
  rw [h]
  rfl
/-- a word that is none of x, y, min, max -/
theorem rd_word (d p : Nat) (b : Bytes) (r : Toks) (h : isWord b = true) (q : ofSums b = none) : rd d .factor ((p, .name b) :: r) = wrong ((p, .name b) :: r) := by
  show SeamText.read (8 * ((r.length + 1) + 1) + 7 + 1) d .factor _ = _
  obtain ⟨F, hF⟩ : ∃ F, F = 8 * ((r.length + 1) + 1) + 7 := ⟨_, rfl⟩
  rw [← hF]
  simp only [SeamText.read]
  rw [q]
  show (if isWord b = true then _ else _) = _
  rw [h]
  rfl
theorem rd_fn (d p : Nat) (b : Bytes) (r : Toks) (g : Nat) (q : ofSums b = some g) : rd d .factor ((p, .name b) :: r) = if DEEP ≤ d then wrong ((p, .name b) :: r) else next (SeamText.sign 40 r) fun x => rd (d + 1) (.parts g [] (takesOf g)) x.2 := by
  show SeamText.read (8 * ((r.length + 1) + 1) + 7 + 1) d .factor _ = _
  obtain ⟨F, hF⟩ : ∃ F, F = 8 * ((r.length + 1) + 1) + 7 := ⟨_, rfl⟩
  rw [← hF]
  simp only [SeamText.read]
  rw [q]
  show (if DEEP ≤ d then _ else _) = _
  split
  · rfl
  · refine next_cg rfl fun x hx => ?_
    have e := sign_len hx
    exact rd_of (by simp only [rank]; omega)
theorem rd_neg (d p : Nat) (r : Toks) : rd d .factor ((p, .sign 45) :: r) = if DEEP ≤ d then wrong ((p, .sign 45) :: r) else next (rd (d + 1) .factor r) fun a => .ok (.neg a.1, a.2) := by
  show SeamText.read (8 * ((r.length + 1) + 1) + 7 + 1) d .factor _ = _
  obtain ⟨F, hF⟩ : ∃ F, F = 8 * ((r.length + 1) + 1) + 7 := ⟨_, rfl⟩
  rw [← hF]
  simp only [SeamText.read]
  rw [if_pos trivial]
  split
  · rfl
  · exact next_cg (rd_of (by simp only [rank]; omega)) fun _ _ => rfl
theorem rd_paren (d p : Nat) (r : Toks) : rd d .factor ((p, .sign 40) :: r) = if DEEP ≤ d then wrong ((p, .sign 40) :: r) else next (rd (d + 1) .sum r) fun a => next (SeamText.sign 41 a.2) fun x => .ok (a.1, x.2) := by
  show SeamText.read (8 * ((r.length + 1) + 1) + 7 + 1) d .factor _ = _
  obtain ⟨F, hF⟩ : ∃ F, F = 8 * ((r.length + 1) + 1) + 7 := ⟨_, rfl⟩
  rw [← hF]
  simp only [SeamText.read]
  rw [if_neg (by decide), if_pos trivial]
  split
  · rfl
  · exact next_cg (rd_of (by simp only [rank]; omega)) fun _ _ => rfl
theorem rd_other (d p : Nat) (c : UInt8) (r : Toks) (h1 : c ≠ 45) (h2 : c ≠ 40) : rd d .factor ((p, .sign c) :: r) = wrong ((p, .sign c) :: r) := by
  show SeamText.read (8 * ((r.length + 1) + 1) + 7 + 1) d .factor _ = _
  obtain ⟨F, hF⟩ : ∃ F, F = 8 * ((r.length + 1) + 1) + 7 := ⟨_, rfl⟩
  rw [← hF]
  simp only [SeamText.read]
  rw [if_neg h1, if_neg h2]
theorem rd_pnil (d : Nat) : rd d .place [] = wrong [] := rfl
theorem rd_pnum (d p n k : Nat) (r : Toks) : rd d .place ((p, .num n k) :: r) = wrong ((p, .num n k) :: r) := rfl
theorem rd_pname (d p : Nat) (b : Bytes) (r : Toks) (h : isWord b = false) : rd d .place ((p, .name b) :: r) = .ok (.name b, r) := by
  have q : ofPlaces b = none := by
    unfold isWord at h
    cases e : ofPlaces b with
    | none => rfl
    | some x => rw [e] at h; simp at h
  show SeamText.read (8 * ((r.length + 1) + 1) + 7 + 1) d .place _ = _
  obtain ⟨F, hF⟩ : ∃ F, F = 8 * ((r.length + 1) + 1) + 7 := ⟨_, rfl⟩
  rw [← hF]
  simp only [SeamText.read]
  rw [q]
  show (if isWord b = true then _ else _) = _
  rw [h]
  rfl
theorem rd_pword (d p : Nat) (b : Bytes) (r : Toks) (h : isWord b = true) (q : ofPlaces b = none) : rd d .place ((p, .name b) :: r) = wrong ((p, .name b) :: r) := by
  show SeamText.read (8 * ((r.length + 1) + 1) + 7 + 1) d .place _ = _
  obtain ⟨F, hF⟩ : ∃ F, F = 8 * ((r.length + 1) + 1) + 7 := ⟨_, rfl⟩
  rw [← hF]
  simp only [SeamText.read]
  rw [q]
  show (if isWord b = true then _ else _) = _
  rw [h]
  rfl
theorem rd_pfn (d p : Nat) (b : Bytes) (r : Toks) (g : Nat) (q : ofPlaces b = some g) : rd d .place ((p, .name b) :: r) = if DEEP ≤ d then wrong ((p, .name b) :: r) else next (SeamText.sign 40 r) fun x => rd (d + 1) (.parts g [] (takesOf g)) x.2 := by
  show SeamText.read (8 * ((r.length + 1) + 1) + 7 + 1) d .place _ = _
  obtain ⟨F, hF⟩ : ∃ F, F = 8 * ((r.length + 1) + 1) + 7 := ⟨_, rfl⟩
  rw [← hF]
  simp only [SeamText.read]
  rw [q]
  show (if DEEP ≤ d then _ else _) = _
  split
  · rfl
  · refine next_cg rfl fun x hx => ?_
    have e := sign_len hx
    exact rd_of (by simp only [rank]; omega)
theorem rd_pair (d p : Nat) (r : Toks) (h : d < DEEP) : rd d .place ((p, .sign 40) :: r) = rd (d + 1) (.parts 4 [] (takesOf 4)) r := by
  show SeamText.read (8 * ((r.length + 1) + 1) + 7 + 1) d .place _ = _
  obtain ⟨F, hF⟩ : ∃ F, F = 8 * ((r.length + 1) + 1) + 7 := ⟨_, rfl⟩
  rw [← hF]
  simp only [SeamText.read]
  rw [if_pos ⟨trivial, h⟩]
  exact rd_of (by simp only [rank]; omega)
theorem rd_pdeep (d p : Nat) (r : Toks) (h : DEEP ≤ d) : rd d .place ((p, .sign 40) :: r) = wrong ((p, .sign 40) :: r) := by
  show SeamText.read (8 * ((r.length + 1) + 1) + 7 + 1) d .place _ = _
  obtain ⟨F, hF⟩ : ∃ F, F = 8 * ((r.length + 1) + 1) + 7 := ⟨_, rfl⟩
  rw [← hF]
  simp only [SeamText.read]
  rw [if_neg (by omega)]
theorem rd_pother (d p : Nat) (c : UInt8) (r : Toks) (h : c ≠ 40) : rd d .place ((p, .sign c) :: r) = wrong ((p, .sign c) :: r) := by
  show SeamText.read (8 * ((r.length + 1) + 1) + 7 + 1) d .place _ = _
  obtain ⟨F, hF⟩ : ∃ F, F = 8 * ((r.length + 1) + 1) + 7 := ⟨_, rfl⟩
  rw [← hF]
  simp only [SeamText.read]
  rw [if_neg (fun z => h z.1)]
theorem rd_parts_nil (d g : Nat) (l : List E) (t : Toks) : rd d (.parts g l []) t = next (SeamText.sign 41 t) fun x => .ok (called g l, x.2) := by
  show SeamText.read (8 * (t.length + 1) + 7 + 1) d (.parts g l []) _ = _
  obtain ⟨F, hF⟩ : ∃ F, F = 8 * (t.length + 1) + 7 := ⟨_, rfl⟩
  rw [← hF]
  simp only [SeamText.read]
theorem rd_parts_cons (d g : Nat) (l : List E) (p : Bool) (m : List Bool) (t : Toks) : rd d (.parts g l (p :: m)) t = next (rd d (if p = true then .place else .sum) t) fun a => if m = [] then rd d (.parts g (l ++ [a.1]) []) a.2 else next (SeamText.sign 44 a.2) fun x => rd d (.parts g (l ++ [a.1]) m) x.2 := by
  show SeamText.read (8 * (t.length + 1) + 7 + 1) d (.parts g l (p :: m)) _ = _
  obtain ⟨F, hF⟩ : ∃ F, F = 8 * (t.length + 1) + 7 := ⟨_, rfl⟩
  rw [← hF]
  simp only [SeamText.read]
  refine next_cg (rd_of (by cases p <;> simp [rank] <;> omega)) fun a ha => ?_
  have q := rd_len (e := a.1) (r := a.2) ha
  have q' : a.2.length + 1 ≤ t.length := by
    cases p <;> exact q
  split
  · exact rd_of (by simp only [rank]; omega)
  · refine next_cg rfl fun y hy => ?_
    have q3 := sign_len hy
    exact rd_of (by simp only [rank]; omega)
end SD
set_option Elab.async false
/-! # Tokens -/
namespace SD
open SeamNum SeamPoly SeamPattern SeamText

/-! ### lex without its fuel -/
theorem drop_le {α : Type} (n : Nat) (l : List α) : (l.drop n).length ≤ l.length := by rw [List.length_drop]; omega
theorem dw_le {α : Type} (p : α → Bool) : ∀ l : List α, (l.dropWhile p).length ≤ l.length
  | [] => Nat.le_refl _
  | c :: r => by
    rw [List.dropWhile_cons]
    split
    · exact Nat.le_succ_of_le (dw_le p r)
    · exact Nat.le_refl _
theorem tw_pos {p : UInt8 → Bool} {c : UInt8} {r : Bytes} (h : p c = true) : 1 ≤ ((c :: r).takeWhile p).length := by
  rw [List.takeWhile_cons, if_pos h]
  simp
theorem lex_same : ∀ (n : Nat) (l : Bytes), l.length ≤ n → ∀ (f g p : Nat), n < f → n < g → lex f p l = lex g p l
  | n, l, hl, 0, g, p, hf, hg => by omega
  | n, l, hl, f + 1, 0, p, hf, hg => by omega
  | n, [], hl, f + 1, g + 1, p, hf, hg => by simp only [lex]
  | 0, c :: r, hl, f + 1, g + 1, p, hf, hg => by simp at hl
  | n + 1, c :: r, hl, f + 1, g + 1, p, hf, hg => by
    have hr : r.length ≤ n := by simpa using hl
    have ih : ∀ (m : Bytes) (q : Nat), m.length ≤ n → lex f q m = lex g q m := fun m q hm => lex_same n m hm f g q (by omega) (by omega)
    have hdrop : ∀ k : Nat, 1 ≤ k → ((c :: r).drop k).length ≤ n := fun k hk => by
      rw [List.length_drop, List.length_cons]
      omega
    simp only [lex]
    split
    · exact ih _ _ hr
    · split
      · exact ih _ _ (Nat.le_trans (dw_le _ _) hr)
      · split
        · rename_i h
          split
          · rfl
          · have q := tw_pos (p := goesOn) (c := c) (r := r) (by unfold goesOn; rw [h]; rfl)
            rw [ih _ _ (hdrop _ q)]
        · split
          · rename_i h
            have q := tw_pos (p := isDigit) (c := c) (r := r) h
            have e1 : ∀ q' : Nat, lex f q' ((c :: r).drop ((c :: r).takeWhile isDigit).length) = lex g q' ((c :: r).drop ((c :: r).takeWhile isDigit).length) := fun q' => ih _ _ (hdrop _ q)
            have e2 : ∀ q' k : Nat, lex f q' (((c :: r).drop ((c :: r).takeWhile isDigit).length).drop (1 + k)) = lex g q' (((c :: r).drop ((c :: r).takeWhile isDigit).length).drop (1 + k)) := fun q' k => ih _ _ (Nat.le_trans (drop_le _ _) (hdrop _ q))
            simp only [e1, e2]
          · split
            · rw [ih _ _ hr]
            · rfl
/-- the tokens from a place on -/
def lx (p : Nat) (l : Bytes) : Toks × Option Nat := lex (l.length + 1) p l
theorem lx_of {f p : Nat} {l : Bytes} (h : l.length < f) : lex f p l = lx p l := lex_same l.length l (Nat.le_refl _) f _ p h (Nat.lt_succ_self _)
theorem lx_nil (p : Nat) : lx p [] = ([], none) := rfl
theorem lx_blank {p : Nat} {c : UInt8} {r : Bytes} (h : c = 32 ∨ c = 10) : lx p (c :: r) = lx (p + 1) r := by
  show lex (r.length + 1 + 1) p (c :: r) = _
  simp only [lex]
  rw [if_pos h]
  exact lx_of (Nat.lt_succ_self _)
theorem lx_rem {p : Nat} {r : Bytes} : lx p (35 :: r) = lx (p + 1 + (r.length - (r.dropWhile fun (d : UInt8) => d != 10).length)) (r.dropWhile fun (d : UInt8) => d != 10) := by
  show lex (r.length + 1 + 1) p (35 :: r) = _
  simp only [lex]
  rw [if_neg (by decide), if_pos trivial]
  exact lx_of (Nat.lt_succ_of_le (dw_le _ _))
theorem lx_letter {p : Nat} {c : UInt8} {r : Bytes} (h : isLetter c = true) (h1 : ¬ (c = 32 ∨ c = 10)) (h2 : c ≠ 35) : lx p (c :: r) = if NAME < ((c :: r).takeWhile goesOn).length then ([], some p) else
    ((p, .name ((c :: r).takeWhile goesOn)) :: (lx (p + ((c :: r).takeWhile goesOn).length) ((c :: r).drop ((c :: r).takeWhile goesOn).length)).1, (lx (p + ((c :: r).takeWhile goesOn).length) ((c :: r).drop ((c :: r).takeWhile goesOn).length)).2) := by
  show lex (r.length + 1 + 1) p (c :: r) = _
  simp only [lex]
  rw [if_neg h1, if_neg h2, if_pos h]
  have q := tw_pos (p := goesOn) (c := c) (r := r) (by unfold goesOn; rw [h]; rfl)
  rw [lx_of (by rw [List.length_drop, List.length_cons]; omega)]
theorem lx_digit {p : Nat} {c : UInt8} {r : Bytes} (h : isDigit c = true) (h0 : isLetter c = false) (h1 : ¬ (c = 32 ∨ c = 10)) (h2 : c ≠ 35) (a s d : Bytes) (ea : a = (c :: r).takeWhile isDigit) (es : s = (c :: r).drop a.length)
    (ed : d = if s.headD 0 = 46 then (s.drop 1).takeWhile isDigit else []) : lx p (c :: r) = if DIGITS < a.length ∨ DIGITS < d.length then ([], some p) else
      if d = [] then ((p, numTok a []) :: (lx (p + a.length) s).1, (lx (p + a.length) s).2) else ((p, numTok a d) :: (lx (p + a.length + 1 + d.length) (s.drop (1 + d.length))).1, (lx (p + a.length + 1 + d.length) (s.drop (1 + d.length))).2) := by
  show lex (r.length + 1 + 1) p (c :: r) = _
  simp only [lex]
  rw [if_neg h1, if_neg h2, if_neg (by rw [h0]; exact Bool.false_ne_true), if_pos h, ← ea, ← es, ← ed]
  have q := tw_pos (p := isDigit) (c := c) (r := r) h
  rw [← ea] at q
  have hs : s.length < r.length + 1 := by rw [es, List.length_drop, List.length_cons]; omega
  rw [lx_of hs, lx_of (Nat.lt_of_le_of_lt (drop_le _ _) hs)]
theorem lx_sign {p : Nat} {c : UInt8} {r : Bytes} (h : signs.contains c = true) (h0 : isLetter c = false) (h3 : isDigit c = false) (h1 : ¬ (c = 32 ∨ c = 10)) (h2 : c ≠ 35) : lx p (c :: r) = ((p, .sign c) :: (lx (p + 1) r).1, (lx (p + 1) r).2) := by
  show lex (r.length + 1 + 1) p (c :: r) = _
  simp only [lex]
  rw [if_neg h1, if_neg h2, if_neg (by rw [h0]; exact Bool.false_ne_true), if_neg (by rw [h3]; exact Bool.false_ne_true), if_pos h, lx_of (Nat.lt_succ_self _)]
theorem lx_none {p : Nat} {c : UInt8} {r : Bytes} (h : signs.contains c = false) (h0 : isLetter c = false) (h3 : isDigit c = false) (h1 : ¬ (c = 32 ∨ c = 10)) (h2 : c ≠ 35) : lx p (c :: r) = ([], some p) := by
  show lex (r.length + 1 + 1) p (c :: r) = _
  simp only [lex]
  rw [if_neg h1, if_neg h2, if_neg (by rw [h0]; exact Bool.false_ne_true), if_neg (by rw [h3]; exact Bool.false_ne_true), if_neg (by rw [h]; exact Bool.false_ne_true)]

/-! ### blanks and remarks -/
/-- what's left behind blanks, line ends, remarks; true: within a remark -/
def skipB : Bool → Bytes → Bytes
  | _, [] => []
  | false, c :: r => if c = 32 ∨ c = 10 then skipB false r else if c = 35 then skipB true r else c :: r
  | true, c :: r => if c = 10 then skipB false r else skipB true r
theorem skipB_le : ∀ (b : Bool) (l : Bytes), (skipB b l).length ≤ l.length
  | _, [] => by cases ‹Bool› <;> exact Nat.le_refl _
  | false, c :: r => by
    have h1 := skipB_le false r
    have h2 := skipB_le true r
    simp only [skipB]
    split
    · exact Nat.le_succ_of_le h1
    · split
      · exact Nat.le_succ_of_le h2
      · exact Nat.le_refl _
  | true, c :: r => by
    have h1 := skipB_le false r
    have h2 := skipB_le true r
    simp only [skipB]
    split
    · exact Nat.le_succ_of_le h1
    · exact Nat.le_succ_of_le h2
theorem skipB_rem : ∀ r : Bytes, skipB true r = skipB false (r.dropWhile fun (d : UInt8) => d != 10)
  | [] => rfl
  | c :: r => by
    by_cases h : c = 10
    · subst h
      simp [skipB]
    · have q : (c != 10) = true := by simpa using h
      rw [List.dropWhile_cons, if_pos q, ← skipB_rem r]
      simp only [skipB]
      rw [if_neg h]
theorem skipB_twice : ∀ (b : Bool) (l : Bytes), skipB false (skipB b l) = skipB b l
  | _, [] => by cases ‹Bool› <;> rfl
  | false, c :: r => by
    have h1 := skipB_twice false r
    have h2 := skipB_twice true r
    by_cases h : c = 32 ∨ c = 10
    · have e : skipB false (c :: r) = skipB false r := by simp only [skipB]; rw [if_pos h]
      rw [e, h1]
    · by_cases h' : c = 35
      · have e : skipB false (c :: r) = skipB true r := by simp only [skipB]; rw [if_neg h, if_pos h']
        rw [e, h2]
      · have e : skipB false (c :: r) = c :: r := by simp only [skipB]; rw [if_neg h, if_neg h']
        rw [e, e]
  | true, c :: r => by
    have h1 := skipB_twice false r
    have h2 := skipB_twice true r
    by_cases h : c = 10
    · have e : skipB true (c :: r) = skipB false r := by simp only [skipB]; rw [if_pos h]
      rw [e, h1]
    · have e : skipB true (c :: r) = skipB true r := by simp only [skipB]; rw [if_neg h]
      rw [e, h2]
/-- what stands first there is no blank -/
theorem skipB_head : ∀ {b : Bool} {l : Bytes} {c : UInt8} {r : Bytes}, skipB b l = c :: r → ¬ (c = 32 ∨ c = 10) ∧ c ≠ 35
  | b, l, c, r, h => by
    have q := skipB_twice b l
    rw [h] at q
    simp only [skipB] at q
    have hr1 := skipB_le false r
    have hr2 := skipB_le true r
    by_cases h1 : c = 32 ∨ c = 10
    · rw [if_pos h1] at q
      rw [q, List.length_cons] at hr1
      omega
    · rw [if_neg h1] at q
      by_cases h2 : c = 35
      · rw [if_pos h2] at q
        rw [q, List.length_cons] at hr2
        omega
      · exact ⟨h1, h2⟩
theorem lx_skip : ∀ (n : Nat) (l : Bytes) (p : Nat), l.length ≤ n → lx p l = lx (p + (l.length - (skipB false l).length)) (skipB false l)
  | _, [], p, _ => rfl
  | 0, c :: r, p, h => by simp at h
  | n + 1, c :: r, p, h => by
    have hr : r.length ≤ n := by simpa using h
    by_cases h1 : c = 32 ∨ c = 10
    · have e : skipB false (c :: r) = skipB false r := by simp only [skipB]; rw [if_pos h1]
      rw [lx_blank h1, lx_skip n r _ hr, e]
      have q := skipB_le false r
      rw [List.length_cons, show p + 1 + (r.length - (skipB false r).length) = p + (r.length + 1 - (skipB false r).length) by omega]
    · by_cases h2 : c = 35
      · subst h2
        have e : skipB false (35 :: r) = skipB false (r.dropWhile fun (d : UInt8) => d != 10) := by
          rw [← skipB_rem]
          rfl
        have hd := dw_le (fun (d : UInt8) => d != 10) r
        rw [lx_rem, lx_skip n _ _ (Nat.le_trans hd hr), e]
        have q := skipB_le false (r.dropWhile fun (d : UInt8) => d != 10)
        rw [List.length_cons]
        congr 1
        omega
      · have e : skipB false (c :: r) = c :: r := by simp only [skipB]; rw [if_neg h1, if_neg h2]
        rw [e, Nat.sub_self, Nat.add_zero]

/-! ### bytes that no token holds: all one -/
def known (c : UInt8) : Bool := goesOn c || (signs.contains c || (c == 46 || (c == 35 || (c == 32 || c == 10))))
def kn (c : UInt8) : UInt8 := if known c = true then c else 63
theorem all_u8 {p : UInt8 → Prop} [DecidablePred p] (h : ∀ n : Fin 256, p (UInt8.ofNat n.val)) (c : UInt8) : p c := by
  have q := h ⟨c.toNat, c.toNat_lt⟩
  have e : UInt8.ofNat c.toNat = c := by simp
  rw [← e]
  exact q
theorem kn_goesOn : ∀ c : UInt8, goesOn (kn c) = goesOn c := all_u8 (p := fun c => goesOn (kn c) = goesOn c) (by decide +kernel)
theorem kn_digit : ∀ c : UInt8, isDigit (kn c) = isDigit c := all_u8 (p := fun c => isDigit (kn c) = isDigit c) (by decide +kernel)
theorem kn_letter : ∀ c : UInt8, isLetter (kn c) = isLetter c := all_u8 (p := fun c => isLetter (kn c) = isLetter c) (by decide +kernel)
theorem kn_sign : ∀ c : UInt8, signs.contains (kn c) = signs.contains c := all_u8 (p := fun c => signs.contains (kn c) = signs.contains c) (by decide +kernel)
theorem kn_ne10 : ∀ c : UInt8, (kn c != 10) = (c != 10) := all_u8 (p := fun c => (kn c != 10) = (c != 10)) (by decide +kernel)
theorem kn_id : ∀ c : UInt8, (goesOn c = true ∨ signs.contains c = true ∨ c = 46 ∨ c = 35 ∨ c = 32 ∨ c = 10) → kn c = c := all_u8 (p := fun c => (goesOn c = true ∨ signs.contains c = true ∨ c = 46 ∨ c = 35 ∨ c = 32 ∨ c = 10) → kn c = c) (by decide +kernel)
theorem kn_blank : ∀ c : UInt8, (kn c = 32 ∨ kn c = 10) ↔ (c = 32 ∨ c = 10) := all_u8 (p := fun c => (kn c = 32 ∨ kn c = 10) ↔ (c = 32 ∨ c = 10)) (by decide +kernel)
theorem kn_35 : ∀ c : UInt8, kn c = 35 ↔ c = 35 := all_u8 (p := fun c => kn c = 35 ↔ c = 35) (by decide +kernel)
theorem kn_46 : ∀ c : UInt8, kn c = 46 ↔ c = 46 := all_u8 (p := fun c => kn c = 46 ↔ c = 46) (by decide +kernel)
theorem tw_kn {p : UInt8 → Bool} (hp : ∀ c, p (kn c) = p c) (hk : ∀ c, p c = true → kn c = c) : ∀ l : Bytes, (l.map kn).takeWhile p = l.takeWhile p
  | [] => rfl
  | c :: r => by
    rw [List.map_cons, List.takeWhile_cons, List.takeWhile_cons, hp c, tw_kn hp hk r]
    split
    · rename_i h
      rw [hk c h]
    · rfl
theorem dw_kn {p : UInt8 → Bool} (hp : ∀ c, p (kn c) = p c) : ∀ l : Bytes, (l.map kn).dropWhile p = (l.dropWhile p).map kn
  | [] => rfl
  | c :: r => by
    rw [List.map_cons, List.dropWhile_cons, List.dropWhile_cons, hp c, dw_kn hp r]
    split
    · rfl
    · rfl
theorem headD_kn (l : Bytes) : (l.map kn).headD 0 = 46 ↔ l.headD 0 = 46 := by
  cases l with
  | nil => exact Iff.rfl
  | cons c r => exact kn_46 c
theorem digit_goesOn {c : UInt8} (h : isDigit c = true) : goesOn c = true := by unfold goesOn; rw [h, Bool.or_true]
theorem lex_kn : ∀ (f p : Nat) (l : Bytes), lex f p (l.map kn) = lex f p l
  | 0, _, _ => by simp only [lex]
  | f + 1, p, [] => by simp only [lex, List.map_nil]
  | f + 1, p, c :: r => by
    have ih := lex_kn f
    have eg : ((c :: r).map kn).takeWhile goesOn = (c :: r).takeWhile goesOn := tw_kn kn_goesOn (fun c h => kn_id c (.inl h)) _
    have ed : ∀ l : Bytes, (l.map kn).takeWhile isDigit = l.takeWhile isDigit := tw_kn kn_digit (fun c h => kn_id c (.inl (digit_goesOn h)))
    rw [List.map_cons] at eg ⊢
    have edc := ed (c :: r)
    rw [List.map_cons] at edc
    simp only [lex]
    rw [kn_letter, kn_digit, kn_sign, eg, edc, dw_kn kn_ne10, List.length_map, List.length_map]
    simp only [kn_blank, kn_35, ih]
    have edr : ∀ k : Nat, (kn c :: r.map kn).drop k = ((c :: r).drop k).map kn := fun k => by rw [← List.map_cons, List.map_drop]
    simp only [edr, ih, headD_kn, ← List.map_drop, ed]
    by_cases h : signs.contains c = true
    · rw [kn_id c (.inr (.inl h))]
    · have h' : signs.contains c = false := by simpa using h
      simp only [h', Bool.false_eq_true, if_false]
theorem lx_kn (p : Nat) (l : Bytes) : lx p (l.map kn) = lx p l := by
  show lex ((l.map kn).length + 1) p (l.map kn) = _
  rw [List.length_map]
  exact lex_kn _ _ _
end SD
set_option Elab.async false
/-! # Numbers' texts; what a token is -/
namespace SD
open SeamNum SeamPoly SeamPattern SeamText

/-! ### digits -/
def dg (c : UInt8) : Nat := c.toNat - 48
theorem isDigit_iff {c : UInt8} (h : isDigit c = true) : 48 ≤ c.toNat ∧ c.toNat ≤ 57 := by
  unfold isDigit at h
  simp only [Bool.and_eq_true, decide_eq_true_eq, UInt8.le_iff_toNat_le] at h
  exact h
theorem dg_lt {c : UInt8} (h : isDigit c = true) : dg c < 10 := by
  have q := isDigit_iff h
  unfold dg
  omega
theorem decimal_dg {c : UInt8} : isDigit c = true → decimal (dg c) = [c] := all_u8 (p := fun c => isDigit c = true → decimal (dg c) = [c]) (by decide +kernel) c
theorem decimal_step {n : Nat} {c : UInt8} (hn : 0 < n) (h : isDigit c = true) : decimal (10 * n + dg c) = decimal n ++ [c] := by
  have q := Nat.toDigits_append_toDigits (b := 10) (n := n) (d := dg c) (by decide) hn (dg_lt h)
  unfold decimal
  rw [← q, List.map_append]
  have z := decimal_dg h
  unfold decimal at z
  rw [z]
def step10 (n : Nat) (c : UInt8) : Nat := 10 * n + (c.toNat - 48)
theorem natOf_fold (b : Bytes) : natOf b = b.foldl step10 0 := rfl
theorem decimal_fold : ∀ (a : Bytes) (n : Nat), 0 < n → (∀ c ∈ a, isDigit c = true) → decimal (a.foldl step10 n) = decimal n ++ a
  | [], n, _, _ => by simp
  | c :: r, n, hn, h => by
    have hc := h c (List.mem_cons_self ..)
    rw [List.foldl_cons, decimal_fold r _ (by unfold step10; omega) fun x hx => h x (List.mem_cons_of_mem _ hx)]
    show decimal (10 * n + dg c) ++ r = _
    rw [decimal_step hn hc, List.append_assoc]
    rfl
/-- digits without the noughts in front -/
def noNull (a : Bytes) : Bytes := a.dropWhile fun (c : UInt8) => c == 48
def orNull (w : Bytes) : Bytes := if w = [] then [48] else w
theorem decimal_natOf : ∀ a : Bytes, (∀ c ∈ a, isDigit c = true) → decimal (natOf a) = orNull (noNull a)
  | [], _ => by decide +kernel
  | c :: r, h => by
    have hc := h c (List.mem_cons_self ..)
    have hr := fun x hx => h x (List.mem_cons_of_mem _ hx)
    by_cases e : c = 48
    · subst e
      have q := decimal_natOf r hr
      have e1 : natOf (48 :: r) = natOf r := rfl
      have e2 : noNull (48 :: r) = noNull r := by
        unfold noNull
        rw [List.dropWhile_cons, if_pos (beq_self_eq_true _)]
      rw [e1, e2, q]
    · have e2 : noNull (c :: r) = c :: r := by
        unfold noNull
        rw [List.dropWhile_cons, if_neg (by simpa using e)]
      have hpos : 0 < dg c := by
        have q := isDigit_iff hc
        unfold dg
        have : c.toNat ≠ 48 := fun z => e (UInt8.toNat_inj.mp z)
        omega
      have e1 : natOf (c :: r) = r.foldl step10 (dg c) := by
        show r.foldl step10 (10 * 0 + dg c) = _
        rw [Nat.mul_zero, Nat.zero_add]
      rw [e1, decimal_fold r _ hpos hr, decimal_dg hc, e2]
      rfl
theorem natOf_snoc (a : Bytes) (c : UInt8) : natOf (a ++ [c]) = 10 * natOf a + dg c := by
  rw [natOf_fold, List.foldl_append]
  rfl
theorem fold_app : ∀ (d : Bytes) (n : Nat), d.foldl step10 n = n * 10 ^ d.length + natOf d
  | [], n => by simp [natOf]
  | c :: r, n => by
    have q := fold_app r (step10 0 c)
    have e : natOf (c :: r) = step10 0 c * 10 ^ r.length + natOf r := q
    have e0 : step10 0 c = dg c := by show 10 * 0 + dg c = dg c; omega
    rw [List.foldl_cons, fold_app r, List.length_cons, e, e0]
    show (10 * n + dg c) * 10 ^ r.length + natOf r = _
    rw [Nat.pow_succ, Nat.add_mul, Nat.mul_comm 10 n, Nat.mul_assoc, Nat.mul_comm 10 (10 ^ r.length)]
    omega
theorem natOf_app (a d : Bytes) : natOf (a ++ d) = natOf a * 10 ^ d.length + natOf d := by
  rw [natOf_fold, List.foldl_append, fold_app]
  rfl
theorem natOf_lt : ∀ d : Bytes, (∀ c ∈ d, isDigit c = true) → natOf d < 10 ^ d.length
  | [], _ => by decide
  | c :: r, h => by
    have hc := dg_lt (h c (List.mem_cons_self ..))
    have ih := natOf_lt r fun x hx => h x (List.mem_cons_of_mem _ hx)
    have e : natOf (c :: r) = dg c * 10 ^ r.length + natOf r := by
      have q := fold_app r (step10 0 c)
      have e0 : step10 0 c = dg c := by show 10 * 0 + dg c = dg c; omega
      rw [e0] at q
      rw [← e0] at q
      have z : natOf (c :: r) = step10 0 c * 10 ^ r.length + natOf r := by rw [← e0] at *; exact q
      rw [z, e0]
    rw [e, List.length_cons, Nat.pow_succ]
    have : dg c * 10 ^ r.length + 10 ^ r.length ≤ 10 * 10 ^ r.length := by
      rw [← Nat.succ_mul]
      exact Nat.mul_le_mul_right _ hc
    omega
theorem dw_null : ∀ d : Bytes, d = List.replicate (d.length - (noNull d).length) 48 ++ noNull d
  | [] => rfl
  | c :: r => by
    by_cases e : c = 48
    · subst e
      have e2 : noNull (48 :: r) = noNull r := by
        unfold noNull
        rw [List.dropWhile_cons, if_pos (beq_self_eq_true _)]
      have q := dw_null r
      have hl : (noNull r).length ≤ r.length := dw_le _ _
      rw [e2, List.length_cons, show r.length + 1 - (noNull r).length = (r.length - (noNull r).length) + 1 by omega, List.replicate_succ, List.cons_append, ← q]
    · have e2 : noNull (c :: r) = c :: r := by
        unfold noNull
        rw [List.dropWhile_cons, if_neg (by simpa using e)]
      rw [e2, Nat.sub_self]
      rfl
/-- the digits behind the point, filled up -/
theorem pad_null {d : Bytes} (hd : d ≠ []) (h : ∀ c ∈ d, isDigit c = true) : List.replicate (d.length - (decimal (natOf d)).length) 48 ++ decimal (natOf d) = d := by
  rw [decimal_natOf d h]
  have q := dw_null d
  by_cases e : noNull d = []
  · unfold orNull
    rw [if_pos e]
    rw [e, List.length_nil, Nat.sub_zero, List.append_nil] at q
    have hl : 0 < d.length := by
      cases d with
      | nil => exact absurd rfl hd
      | cons c r => simp
    rw [show ([48] : Bytes).length = 1 from rfl]
    have e3 : List.replicate (d.length - 1) (48 : UInt8) ++ [48] = List.replicate d.length 48 := by
      rw [← List.replicate_succ', show d.length - 1 + 1 = d.length by omega]
    rw [e3, ← q]
  · unfold orNull
    rw [if_neg e]
    exact q.symm
/-- digits without the noughts behind -/
def noTail (d : Bytes) : Bytes := (noNull d.reverse).reverse
theorem fewest_rev (a : Bytes) : ∀ e : Bytes, (∀ c ∈ e, isDigit c = true) → fewest (natOf (a ++ e.reverse)) e.length = (natOf (a ++ (noNull e).reverse), (noNull e).length)
  | [], _ => by simp [fewest, noNull]
  | c :: r, h => by
    have hc := h c (List.mem_cons_self ..)
    have hr := fun x hx => h x (List.mem_cons_of_mem _ hx)
    have e1 : natOf (a ++ (c :: r).reverse) = 10 * natOf (a ++ r.reverse) + dg c := by
      rw [List.reverse_cons, ← List.append_assoc, natOf_snoc]
    have hd := dg_lt hc
    have e3 : (10 * natOf (a ++ r.reverse) + dg c) % 10 = dg c := by omega
    have e4 : (10 * natOf (a ++ r.reverse) + dg c) / 10 = natOf (a ++ r.reverse) := by omega
    rw [e1, List.length_cons]
    simp only [fewest]
    rw [e3, e4]
    by_cases e : c = 48
    · subst e
      have e2 : noNull (48 :: r) = noNull r := by
        unfold noNull
        rw [List.dropWhile_cons, if_pos (beq_self_eq_true _)]
      rw [if_pos (show dg 48 = 0 from rfl), fewest_rev a r hr, e2]
    · have e2 : noNull (c :: r) = c :: r := by
        unfold noNull
        rw [List.dropWhile_cons, if_neg (by simpa using e)]
      have hne : dg c ≠ 0 := by
        have q := isDigit_iff hc
        unfold dg
        have : c.toNat ≠ 48 := fun z => e (UInt8.toNat_inj.mp z)
        omega
      rw [if_neg hne, e2, e1, List.length_cons]
theorem fewest_is {a d : Bytes} (h : ∀ c ∈ d, isDigit c = true) : fewest (natOf (a ++ d)) d.length = (natOf (a ++ noTail d), (noTail d).length) := by
  have q := fewest_rev a d.reverse (fun c hc => h c (List.mem_reverse.mp hc))
  rw [List.reverse_reverse, List.length_reverse] at q
  rw [q]
  unfold noTail
  rw [List.length_reverse]
theorem mem_noNull {a : Bytes} {c : UInt8} (h : c ∈ noNull a) : c ∈ a := by
  have q := dw_null a
  rw [q]
  exact List.mem_append.mpr (.inr h)
theorem mem_noTail {a : Bytes} {c : UInt8} (h : c ∈ noTail a) : c ∈ a := List.mem_reverse.mp (mem_noNull (List.mem_reverse.mp h))
/-- a number's digits, as few as tell it -/
def plain (w d : Bytes) : Bytes := if noTail d = [] then orNull (noNull w) else orNull (noNull w) ++ (46 :: noTail d)
theorem plain_is {a d : Bytes} (ha : ∀ c ∈ a, isDigit c = true) (hd : ∀ c ∈ d, isDigit c = true) : pointText (fewest (natOf (a ++ d)) d.length).1 (fewest (natOf (a ++ d)) d.length).2 = plain a d := by
  rw [fewest_is hd]
  unfold pointText plain
  by_cases e : noTail d = []
  · rw [if_pos e]
    simp only [e, List.length_nil, if_true, List.append_nil]
    exact decimal_natOf a ha
  · have hl : (noTail d).length ≠ 0 := fun z => e (List.length_eq_zero_iff.mp z)
    have ht : ∀ c ∈ noTail d, isDigit c = true := fun c hc => hd c (mem_noTail hc)
    rw [if_neg hl, if_neg e, natOf_app]
    have hlt := natOf_lt (noTail d) ht
    have hp : 0 < 10 ^ (noTail d).length := Nat.pow_pos (by decide)
    have e1 : (natOf a * 10 ^ (noTail d).length + natOf (noTail d)) / 10 ^ (noTail d).length = natOf a := by
      rw [Nat.mul_comm, Nat.mul_add_div hp, Nat.div_eq_of_lt hlt, Nat.add_zero]
    have e2 : (natOf a * 10 ^ (noTail d).length + natOf (noTail d)) % 10 ^ (noTail d).length = natOf (noTail d) := by
      rw [Nat.mul_comm, Nat.mul_add_mod, Nat.mod_eq_of_lt hlt]
    simp only [e1, e2]
    rw [decimal_natOf a ha, pad_null e ht]

/-! ### what a token is -/
def sName : Bytes := ascii "name"
def sNumber : Bytes := ascii "number"
def sBad : Bytes := ascii "bad"
def sEnd : Bytes := ascii "end"
def WORDSB : List Bytes := [ascii "let", ascii "point", ascii "piece", ascii "seam", ascii "grain", ascii "x", ascii "y", ascii "min", ascii "max", ascii "between", ascii "meet", ascii "foot", ascii "mirror", ascii "turn", ascii "shift"]
theorem ofSums_some {b : Bytes} : (ofSums b).isSome = [ascii "x", ascii "y", ascii "min", ascii "max"].contains b := by
  unfold ofSums fnOf
  rw [List.isSome_find?]
  have e : List.range 4 = [0, 1, 2, 3] := rfl
  rw [e]
  simp only [List.any_cons, List.any_nil, List.contains_cons, List.contains_nil]
  have e0 : wordOf 0 = ascii "x" := rfl
  have e1 : wordOf 1 = ascii "y" := rfl
  have e2 : wordOf 2 = ascii "min" := rfl
  have e3 : wordOf 3 = ascii "max" := rfl
  rw [e0, e1, e2, e3]
  simp only [Nat.zero_le, decide_true, Bool.true_and]
  simp only [Bool.beq_comm (a := b)]
end SD
set_option Elab.async false
namespace SD
open SeamNum SeamPoly SeamPattern SeamText

def fracOf (s : Bytes) : Bytes := if s.headD 0 = 46 then (s.drop 1).takeWhile isDigit else []
def wholeOf (l : Bytes) : Bytes := l.takeWhile isDigit
/-- how long the token is that begins l -/
def tokLen (l : Bytes) : Nat := if isLetter (l.headD 0) = true then (l.takeWhile goesOn).length else if isDigit (l.headD 0) = true then
  (if fracOf (l.drop (wholeOf l).length) = [] then (wholeOf l).length else (wholeOf l).length + 1 + (fracOf (l.drop (wholeOf l).length)).length) else 1
def kindName (b : Bytes) : Bytes := if isWord b = true then b else if b.length ≤ 16 then sName else sBad
def kindNum (a d : Bytes) : Bytes := if a.length ≤ 18 ∧ d.length ≤ 18 then sNumber else sBad
def kindSign (c : UInt8) : Bytes := if signs.contains c = true then [c] else sBad
def kindL (l : Bytes) : Bytes := if isLetter (l.headD 0) = true then kindName (l.takeWhile goesOn) else if isDigit (l.headD 0) = true then kindNum (wholeOf l) (fracOf (l.drop (wholeOf l).length)) else kindSign (l.headD 0)
/-- x is the digits a, or these, a point, the digits d -/
structure NumText (x a d : Bytes) : Prop where
  ha : ∀ c ∈ a, isDigit c = true
  hd : ∀ c ∈ d, isDigit c = true
  ne : a ≠ []
  is : x = if d = [] then a else a ++ (46 :: d)
/-- the program's token (kind, text) is the words' token -/
def TokR (k x : Bytes) : Tok → Prop
  | .name b => x = b ∧ k = (if isWord b = true then b else sName) ∧ x.length ≤ 37
  | .num n j => k = sNumber ∧ x.length ≤ 37 ∧ ∃ a d, NumText x a d ∧ pointText n j = plain a d
  | .sign c => x = [c] ∧ k = [c] ∧ signs.contains c = true
theorem tw_all {p : UInt8 → Bool} : ∀ l : Bytes, ∀ c ∈ l.takeWhile p, p c = true
  | [], c, h => by simp at h
  | x :: r, c, h => by
    rw [List.takeWhile_cons] at h
    split at h
    · rename_i hx
      rcases List.mem_cons.mp h with e | m
      · rw [e]
        exact hx
      · exact tw_all r c m
    · simp at h
theorem tw_take {p : UInt8 → Bool} : ∀ l : Bytes, l.take (l.takeWhile p).length = l.takeWhile p
  | [] => rfl
  | x :: r => by
    rw [List.takeWhile_cons]
    split
    · rw [List.length_cons, List.take_succ_cons, tw_take r]
    · rfl
theorem tw_len {p : UInt8 → Bool} : ∀ l : Bytes, (l.takeWhile p).length ≤ l.length
  | [] => Nat.le_refl _
  | x :: r => by
    rw [List.takeWhile_cons]
    split
    · exact Nat.succ_le_succ (tw_len r)
    · exact Nat.zero_le _
theorem words_short {b : Bytes} (h : isWord b = true) : b.length ≤ 7 := by
  unfold isWord at h
  simp only [Bool.or_eq_true] at h
  rcases h with h | h | h
  · rw [List.contains_iff_mem] at h
    simp only [List.mem_cons, List.not_mem_nil, or_false] at h
    rcases h with h | h | h | h | h <;> rw [h] <;> decide +kernel
  · rw [ofSums_some, List.contains_iff_mem] at h
    simp only [List.mem_cons, List.not_mem_nil, or_false] at h
    rcases h with h | h | h | h <;> rw [h] <;> decide +kernel
  · unfold ofPlaces fnOf at h
    rw [List.isSome_find?, List.any_eq_true] at h
    obtain ⟨f, hf, q⟩ := h
    rw [Bool.and_eq_true] at q
    have q2 : wordOf f = b := by simpa using q.2
    rw [← q2]
    have hf' : f < 11 := List.mem_range.mp hf
    have all : ∀ g : Fin 11, (wordOf g.val).length ≤ 7 := by decide +kernel
    exact all ⟨f, hf'⟩
theorem kindName_bad {b : Bytes} (hb : kindName b = sBad) : NAME < b.length := by
  unfold kindName at hb
  by_cases w : isWord b = true
  · rw [if_pos w] at hb
    rw [hb] at w
    exact absurd w (by decide +kernel)
  · rw [if_neg w] at hb
    by_cases z : b.length ≤ 16
    · rw [if_pos z] at hb
      exact absurd hb (by decide +kernel)
    · show 16 < b.length
      omega
theorem tok_at {p : Nat} {c : UInt8} {r : Bytes} (h1 : ¬ (c = 32 ∨ c = 10)) (h2 : c ≠ 35) : 1 ≤ tokLen (c :: r) ∧ tokLen (c :: r) ≤ (c :: r).length ∧
    ((kindL (c :: r) = sBad ∧ lx p (c :: r) = ([], some p)) ∨ (kindL (c :: r) ≠ sBad ∧ ∃ tok, TokR (kindL (c :: r)) ((c :: r).take (tokLen (c :: r))) tok ∧
      lx p (c :: r) = ((p, tok) :: (lx (p + tokLen (c :: r)) ((c :: r).drop (tokLen (c :: r)))).1, (lx (p + tokLen (c :: r)) ((c :: r).drop (tokLen (c :: r)))).2))) := by
  by_cases hL : isLetter c = true
  · have eT : tokLen (c :: r) = ((c :: r).takeWhile goesOn).length := by
      unfold tokLen
      rw [List.headD_cons, if_pos hL]
    have eK : kindL (c :: r) = kindName ((c :: r).takeWhile goesOn) := by
      unfold kindL
      rw [List.headD_cons, if_pos hL]
    have pos := tw_pos (p := goesOn) (c := c) (r := r) (by unfold goesOn; rw [hL]; rfl)
    refine ⟨by rw [eT]; exact pos, by rw [eT]; exact tw_len _, ?_⟩
    rw [lx_letter hL h1 h2]
    by_cases hb : kindL (c :: r) = sBad
    · rw [eK] at hb
      rw [if_pos (kindName_bad hb)]
      exact .inl ⟨by rw [eK]; exact hb, rfl⟩
    · have hb' := hb
      rw [eK] at hb'
      have hle : ((c :: r).takeWhile goesOn).length ≤ 16 ∧ kindName ((c :: r).takeWhile goesOn) = (if isWord ((c :: r).takeWhile goesOn) = true then ((c :: r).takeWhile goesOn) else sName) := by
        generalize (c :: r).takeWhile goesOn = b at hb'
        unfold kindName at hb' ⊢
        by_cases w : isWord b = true
        · rw [if_pos w, if_pos w]
          exact ⟨Nat.le_trans (words_short w) (by decide), rfl⟩
        · rw [if_neg w] at hb' ⊢
          rw [if_neg w]
          by_cases z : b.length ≤ 16
          · exact ⟨z, if_pos z⟩
          · rw [if_neg z] at hb'
            exact absurd rfl hb'
      rw [if_neg (by show ¬ 16 < _; omega)]
      refine .inr ⟨hb, _, ?_, by rw [eT]⟩
      rw [eT, tw_take, eK, hle.2]
      exact ⟨rfl, rfl, by omega⟩
  · have hL' : isLetter c = false := by simpa using hL
    by_cases hD : isDigit c = true
    · have eT : tokLen (c :: r) = (if fracOf ((c :: r).drop (wholeOf (c :: r)).length) = [] then (wholeOf (c :: r)).length else (wholeOf (c :: r)).length + 1 + (fracOf ((c :: r).drop (wholeOf (c :: r)).length)).length) := by
        unfold tokLen
        rw [List.headD_cons, if_neg hL, if_pos hD]
      have eK : kindL (c :: r) = kindNum (wholeOf (c :: r)) (fracOf ((c :: r).drop (wholeOf (c :: r)).length)) := by
        unfold kindL
        rw [List.headD_cons, if_neg hL, if_pos hD]
      have pos : 1 ≤ (wholeOf (c :: r)).length := tw_pos hD
      have lenA : (wholeOf (c :: r)).length ≤ (c :: r).length := tw_len _
      have tkA : (c :: r).take (wholeOf (c :: r)).length = wholeOf (c :: r) := tw_take _
      have allA : ∀ x ∈ wholeOf (c :: r), isDigit x = true := tw_all _
      have hx := lx_digit (p := p) hD hL' h1 h2 (wholeOf (c :: r)) ((c :: r).drop (wholeOf (c :: r)).length) (fracOf ((c :: r).drop (wholeOf (c :: r)).length)) rfl rfl rfl
      generalize (c :: r) = l at *
      generalize ea : wholeOf l = a at *
      have allD : ∀ x ∈ fracOf (l.drop a.length), isDigit x = true := by
        unfold fracOf
        split
        · exact tw_all _
        · intro x hx
          simp at hx
      have whole : (fracOf (l.drop a.length) = [] → l.take a.length = a) ∧ (fracOf (l.drop a.length) ≠ [] → l.take (a.length + 1 + (fracOf (l.drop a.length)).length) = a ++ (46 :: fracOf (l.drop a.length)) ∧ a.length + 1 + (fracOf (l.drop a.length)).length ≤ l.length) := by
        refine ⟨fun _ => tkA, fun hne => ?_⟩
        unfold fracOf at hne ⊢
        by_cases h46 : (l.drop a.length).headD 0 = 46
        · rw [if_pos h46] at hne ⊢
          have q1 : (l.drop a.length).drop 1 = l.drop (a.length + 1) := by rw [List.drop_drop]
          rw [q1] at hne ⊢
          have hlen := tw_len (p := isDigit) (l.drop (a.length + 1))
          have hne2 : a.length < l.length := by
            by_cases z : a.length < l.length
            · exact z
            · rw [List.drop_eq_nil_of_le (by omega)] at hne
              simp at hne
          have q2 : l.drop a.length = 46 :: l.drop (a.length + 1) := by
            have z := List.drop_eq_getElem_cons hne2
            rw [z] at h46 ⊢
            rw [List.headD_cons] at h46
            rw [h46]
          rw [List.length_drop] at hlen
          refine ⟨?_, by omega⟩
          have e : l = a ++ (46 :: l.drop (a.length + 1)) := by
            rw [← q2]
            conv => lhs; rw [← List.take_append_drop a.length l, tkA]
          have e2 : a.length + 1 + ((l.drop (a.length + 1)).takeWhile isDigit).length = a.length + (((l.drop (a.length + 1)).takeWhile isDigit).length + 1) := by omega
          rw [e2]
          conv => lhs; rw [e]
          rw [List.take_length_add_append, List.take_succ_cons]
          have e3 : (a ++ 46 :: l.drop (a.length + 1)).drop (a.length + 1) = l.drop (a.length + 1) := by rw [← e]
          rw [e3, tw_take]
        · rw [if_neg h46] at hne
          exact absurd rfl hne
      generalize fracOf (l.drop a.length) = d at *
      have hneA : a ≠ [] := fun z => by rw [z] at pos; simp at pos
      refine ⟨?_, ?_, ?_⟩
      · rw [eT]
        split <;> omega
      · rw [eT]
        split
        · exact lenA
        · rename_i hne
          exact (whole.2 hne).2
      · rw [hx]
        by_cases hb : a.length ≤ 18 ∧ d.length ≤ 18
        · have eK2 : kindL l = sNumber := by rw [eK]; exact if_pos hb
          rw [if_neg (by show ¬ (18 < _ ∨ 18 < _); omega)]
          refine .inr ⟨by rw [eK2]; decide +kernel, ?_⟩
          by_cases hde : d = []
          · rw [if_pos hde] at eT ⊢
            refine ⟨_, ?_, by rw [eT]⟩
            rw [eT, tkA, eK2]
            refine ⟨rfl, by omega, a, [], ⟨allA, fun x hx => absurd hx (by simp), hneA, by rw [if_pos rfl]⟩, ?_⟩
            have z := plain_is (a := a) (d := []) allA (fun x hx => absurd hx (by simp))
            exact z
          · rw [if_neg hde] at eT ⊢
            have w := whole.2 hde
            have z1 : p + a.length + 1 + d.length = p + tokLen l := by rw [eT]; omega
            have z2 : (l.drop a.length).drop (1 + d.length) = l.drop (tokLen l) := by
              rw [List.drop_drop, eT]
              congr 1
              omega
            rw [z1, z2]
            refine ⟨_, ?_, rfl⟩
            rw [eT, w.1, eK2]
            refine ⟨rfl, by rw [List.length_append, List.length_cons]; omega, a, d, ⟨allA, allD, hneA, by rw [if_neg hde]⟩, ?_⟩
            exact plain_is allA allD
        · have eK2 : kindL l = sBad := by rw [eK]; exact if_neg hb
          rw [if_pos (by show 18 < _ ∨ 18 < _; omega)]
          exact .inl ⟨eK2, rfl⟩
    · have hD' : isDigit c = false := by simpa using hD
      have eT : tokLen (c :: r) = 1 := by
        unfold tokLen
        rw [List.headD_cons, if_neg hL, if_neg hD]
      have eK : kindL (c :: r) = kindSign c := by
        unfold kindL
        rw [List.headD_cons, if_neg hL, if_neg hD]
      refine ⟨by omega, by rw [eT, List.length_cons]; omega, ?_⟩
      by_cases hs : signs.contains c = true
      · rw [lx_sign hs hL' hD' h1 h2]
        have eK2 : kindL (c :: r) = [c] := by rw [eK]; exact if_pos hs
        refine .inr ⟨?_, .sign c, ?_, by rw [eT]; rfl⟩
        · rw [eK2]
          intro z
          have q := congrArg List.length z
          have q2 : sBad.length = 3 := by decide +kernel
          rw [q2] at q
          cases q
        · rw [eT, eK2]
          exact ⟨rfl, rfl, hs⟩
      · rw [lx_none (by simpa using hs) hL' hD' h1 h2]
        exact .inl ⟨by rw [eK]; exact if_neg hs, rfl⟩
end SD
set_option Elab.async false
set_option linter.all false
set_option maxRecDepth 100000
set_option maxHeartbeats 4000000
/-! # Texts, bytes -/
namespace SDP
open PySem PySem.Spec PyProof.Rows L2 SDX SD TL
open SeamNum (Bytes)
open SeamText (goesOn isLetter)
open SeamPattern (isDigit)
def tx (b : Bytes) : Str := ⟨(b.map UInt8.toNat).toArray⟩
theorem tx_len (b : Bytes) : (tx b).length = b.length := by
  show ((b.map UInt8.toNat).toArray).size = _
  simp
theorem tx_get {b : Bytes} {i : Nat} {c : UInt8} (h : b[i]? = some c) : (tx b).cps[i]? = some c.toNat := by
  show ((b.map UInt8.toNat).toArray)[i]? = _
  simp [h]
theorem tx_one (c : UInt8) : (⟨#[c.toNat]⟩ : Str) = tx [c] := rfl
theorem tx_inj {a b : Bytes} (h : tx a = tx b) : a = b := by
  have q := congrArg (fun s => s.cps.toList) h
  have q' : a.map UInt8.toNat = b.map UInt8.toNat := by simpa [tx] using q
  exact (List.map_inj_right fun x y => UInt8.toNat_inj.mp).mp q'
theorem txt_line {b : Bytes} (h : b.length ≤ 5000) : (tx b).length ≤ sizeLine := by
  rw [tx_len, sizeLine_eq]
  omega
theorem is_alnum : ∀ c : UInt8, c.toNat < 128 → Txt.isalnum ⟨#[c.toNat]⟩ = goesOn c := all_u8 (p := fun c => c.toNat < 128 → Txt.isalnum ⟨#[c.toNat]⟩ = goesOn c) (by decide +kernel)
theorem is_digit : ∀ c : UInt8, c.toNat < 128 → Txt.isdigit ⟨#[c.toNat]⟩ = isDigit c := all_u8 (p := fun c => c.toNat < 128 → Txt.isdigit ⟨#[c.toNat]⟩ = isDigit c) (by decide +kernel)
theorem is_alpha : ∀ c : UInt8, c.toNat < 128 → Txt.isalpha ⟨#[c.toNat]⟩ = isLetter c := all_u8 (p := fun c => c.toNat < 128 → Txt.isalpha ⟨#[c.toNat]⟩ = isLetter c) (by decide +kernel)
theorem drop_suf {l m : Bytes} (h : l <:+ m) : m.drop (m.length - l.length) = l := (List.suffix_iff_eq_drop.mp h).symm
theorem drop_cons {l : Bytes} {i : Nat} {c : UInt8} (h : l[i]? = some c) : l.drop i = c :: l.drop (i + 1) := by
  obtain ⟨hi, e⟩ := List.getElem?_eq_some_iff.mp h
  rw [List.drop_eq_getElem_cons hi, e]
theorem get_of {tb : Bytes} {i : Nat} (h : i < tb.length) : ∃ c, tb[i]? = some c ∧ c ∈ tb := ⟨tb[i], List.getElem?_eq_getElem h, List.getElem_mem h⟩
theorem cut_nat {tb : Bytes} {i j : Nat} (hij : i ≤ j) : cutS (tx tb) (some (i : Int)) (some (j : Int)) = tx ((tb.drop i).take (j - i)) := by
  unfold cutS
  rw [tx_len, HT.sIx_nat, HT.sIx_nat]
  have e : (tx tb).cps.toList = tb.map UInt8.toNat := rfl
  rw [e]
  unfold tx
  rw [List.map_take, List.map_drop]
  have key : ∀ l : List Nat, l.length = tb.length → (l.drop (min i tb.length)).take (min j tb.length - min i tb.length) = (l.drop i).take (j - i) := fun l hl => by
    by_cases h1 : i ≤ tb.length
    · rw [Nat.min_eq_left h1]
      by_cases h2 : j ≤ tb.length
      · rw [Nat.min_eq_left h2]
      · rw [Nat.min_eq_right (by omega), List.take_of_length_le (by rw [List.length_drop]; omega), List.take_of_length_le (by rw [List.length_drop]; omega)]
    · rw [Nat.min_eq_right (by omega), Nat.min_eq_right (by omega), List.drop_eq_nil_of_le (by omega), List.drop_eq_nil_of_le (by omega)]
      simp
  rw [key _ (by rw [List.length_map])]
/-- a name of the top that is a text, a number -/
def Gs (mg : Str → Option Value) (x : Str) (b : Bytes) : Prop := ∃ t, mg x = some (.str (tx b) t)
def Gi (mg : Str → Option Value) (x : Str) (n : Int) : Prop := ∃ t, mg x = some (.int n t)
/-- .. a tuple of texts -/
def Gt (K : PySem.W.Frag) (mg : Str → Option Value) (x : Str) (l : List Bytes) : Prop := ∃ a, mg x = some (.ref a) ∧ ∀ H, SqT K H a (l.map fun b => V.str (tx b))
section
variable {X : Cx} {x : Str} {pos : Pos}
theorem pe_gs {b : Bytes} (hg : Gl X x) (h : Gs X.mg x b) (hd : (x == ("__debug__" : Str)) = false := by decide) : PE X (.Name x pos) (tC (.str (tx b))) := by
  obtain ⟨t, h⟩ := h
  exact pe_glob (v := .str (tx b)) hg h ⟨t, rfl⟩ hd
theorem pe_gi {n : Int} (hg : Gl X x) (h : Gi X.mg x n) (hd : (x == ("__debug__" : Str)) = false := by decide) : PE X (.Name x pos) (tC (.int n)) := by
  obtain ⟨t, h⟩ := h
  exact pe_glob (v := .int n) hg h ⟨t, rfl⟩ hd
theorem pe_gr {a : Addr} (hg : Gl X x) (h : X.mg x = some (.ref a)) (hd : (x == ("__debug__" : Str)) = false := by decide) : PE X (.Name x pos) (tC (.ref a)) :=
  pe_glob (v := .ref a) hg h rfl hd
end
theorem inV_tx (b : Bytes) : ∀ l : List Bytes, inV (.str (tx b)) (l.map fun b => V.str (tx b)) = l.contains b
  | [] => rfl
  | c :: r => by
    have ih := inV_tx b r
    unfold inV at ih ⊢
    rw [List.map_cons, List.any_cons, ih, List.contains_cons]
    congr 1
    show (tx c == tx b) = (b == c)
    by_cases e : c = b
    · subst e
      simp
    · have e2 : tx c ≠ tx b := fun z => e (tx_inj z)
      have e3 : b ≠ c := fun z => e z.symm
      rw [beq_eq_false_iff_ne.mpr e2, beq_eq_false_iff_ne.mpr e3]
theorem flat_tx (l : List Bytes) : (l.map fun b => V.str (tx b)).all flatV = true := by
  rw [List.all_eq_true]
  intro v hv
  obtain ⟨b, _, rfl⟩ := List.mem_map.mp hv
  rfl
def KNOWNB : Bytes := SeamNum.ascii "ABCDEFGHIJKLMNOPQRSTUVWXYZabcdefghijklmnopqrstuvwxyz0123456789(),=+-*/;.# \n"
def knKV : List (Key × V) := KNOWNB.map fun c => (Sum.inl (c.toNat : Int), V.str (tx [c]))
theorem kn_get : ∀ c : UInt8, ((valV (mergeK [] knKV) (Sum.inl (c.toNat : Int))).getD (V.str (tx [63]))) = V.str (tx [kn c]) := all_u8 (p := fun c => ((valV (mergeK [] knKV) (Sum.inl (c.toNat : Int))).getD (V.str (tx [63]))) = V.str (tx [kn c])) (by decide +kernel)
theorem join_ones : ∀ b : Bytes, Txt.join (Str.ofString "") (b.map fun c => tx [c]) = tx b := fun b => by
  rw [join_eq]
  refine ext_tl ?_
  rw [tl_join]
  have ee : tl (Str.ofString "") = [] := by decide +kernel
  rw [ee, List.map_map]
  have go : ∀ b : Bytes, joinL [] (b.map (tl ∘ fun c => tx [c])) = b.map UInt8.toNat := by
    intro b
    induction b with
    | nil => rfl
    | cons c r ih =>
      cases r with
      | nil => rfl
      | cons d r =>
        show [c.toNat] ++ ([] ++ joinL [] ((d :: r).map (tl ∘ fun c => tx [c]))) = _
        rw [ih]
        rfl
  exact go b
/-- a list of bytes, handed in -/
def BytesL (K : PySem.W.Frag) (H : Hp) (a : Addr) (b : Bytes) : Prop := SqL K H a (b.map fun c => V.int (c.toNat : Int))
def spTextOf (K : PySem.W.Frag) : Sp := fun vs H Q _ => ∃ (a : Addr) (b : Bytes), vs = [.ref a] ∧ BytesL K H a b ∧ b.length ≤ 5000 ∧ ∀ H', Same H H' → Q (.str (tx (b.map kn))) H'
structure TextG (K : PySem.W.Frag) (mg : Str → Option Value) : Prop where
  ord : mg "ord" = none
  dict : mg "dict" = none
  KNOWN : Gs mg "KNOWN" KNOWNB
  STR : Gs mg "STRANGER" [63]
theorem paired_snoc {α β : Type} {R : α → β → Prop} : ∀ {l : List α} {m : List β} {a : α} {b : β}, Paired R l m → R a b → Paired R (l ++ [a]) (m ++ [b])
  | _, _, _, _, .nil, h => .cons h .nil
  | _, _, _, _, .cons x t, h => .cons x (paired_snoc t h)
theorem paired_map {α β : Type} {R S : α → β → Prop} (f : ∀ a b, R a b → S a b) : ∀ {l : List α} {m : List β}, Paired R l m → Paired S l m
  | _, _, .nil => .nil
  | _, _, .cons x t => .cons (f _ _ x) (paired_map f t)
section
variable {P : Program} {w : World} {K : PySem.W.Frag} {mg : Str → Option Value} {base : Heap}
theorem scTextOf : FnScope ["t", "known", "sign", "byte"] ["t"] (defScope sTextOf) := ⟨rfl, rfl, rfl, by decide +kernel, rfl, by decide +kernel, by decide +kernel⟩
theorem ok_textOf {f : Addr} {fd : FuncData} (F : L2.Fun K "text_of" "text_of" sTextOf f fd) (T : TextG K mg) : FnOk P w K mg base CX0 1 f fd ["t"] (spTextOf K) := by
  refine F.ok scTextOf (fun vs H Q E h => ?_) (fun cdv A outer s H vs Q E hr h => ?_)
  · obtain ⟨a, b, rfl, _⟩ := h
    rfl
  obtain ⟨a, b, rfl, hS, h5, q⟩ := h
  refine ⟨_, pss_cons (ps_set (i := 1) scTextOf.nd rfl (Or.inr rfl) (pe_callTy (call_dictP rfl) rfl T.dict (by decide +kernel) (pa_cons
      (pe_lc (own := [("sign", 2)]) (g := gName 2) (tt := tYes) rfl scTextOf.nd (pi_str (pe_gs rfl T.KNOWN)) (blkOk_by (N := ["t", "known", "sign", "byte"]) (sc := defScope sTextOf) (by decide +kernel))
        (fun _ _ _ _ _ => pg_name (i := 2) scTextOf.nd rfl (Or.inl rfl)) (fun _ _ _ _ _ => pts_nil)
        (fun _ _ _ _ _ => pe_tup (pa_cons (pe_callB call_ord rfl T.ord PyProof.Rows.boot_ord (pa_cons (pv 2) pa_nil)) (pa_cons (pv 2) pa_nil)))) pa_nil)))
    (pss_one (ps_ret (pe_bm PySem.F.plainAttrs_str PySem.F.slot_str_join PySem.F.type_str_join mt_join pe_str (pa_cons
      (pe_lc (own := [("byte", 3)]) (g := gName 3) (tt := tYes) rfl scTextOf.nd (pi_list (pv 0)) (blkOk_by (N := ["t", "known", "sign", "byte"]) (sc := defScope sTextOf) (by decide +kernel))
        (fun _ _ _ _ _ => pg_name (i := 3) scTextOf.nd rfl (Or.inl rfl)) (fun _ _ _ _ _ => pts_nil)
        (fun _ _ _ _ _ => pe_dget2 (hu_of hr) (pv 1) (pv 3) (pe_gs rfl T.STR) ⟨rfl, rfl, rfl, rfl⟩)) pa_nil)))), ?_⟩
  refine ⟨_, rfl, fun D hD => ?_⟩
  have hlen : (tx KNOWNB).cps.size = KNOWNB.length := by show ((KNOWNB.map UInt8.toNat).toArray).size = _; simp
  refine lc_it walk_str (fun i H' => ∃ ps : List Addr, Same H H' ∧ H' D = some (.lst (ps.map V.ref)) ∧ Paired (fun p (kv : Key × V) => H' p = some (.tup [kV kv.1, kv.2])) ps (knKV.take i)) ⟨[], same_new hD _, upd_same, .nil⟩ (fun _ _ _ _ => True.intro) (fun i x H1 H2 hi ⟨ps, s1, s2, s3⟩ hy => ?_) (fun H1 ⟨ps, s1, s2, s3⟩ => ?_)
  · obtain ⟨rfl, c, hc, rfl⟩ := hy
    rw [hlen] at hi
    have ec : KNOWNB[i]? = some KNOWNB[i] := List.getElem?_eq_getElem hi
    have ec2 : c = KNOWNB[i].toNat := by
      have z := tx_get ec
      rw [hc] at z
      exact Option.some.inj z
    subst ec2
    have lps : ps.length ≤ knKV.length := by
      rw [Paired.length s3, List.length_take]
      omega
    have lkn : knKV.length ≤ 200 := by decide +kernel
    refine ⟨rfl, _, rfl, _, rfl, rfl, _, rfl, by show 2 ≤ sizeLine; decide, fun p hp => ⟨ps.map V.ref, ?_, by rw [List.length_map, sizeLine_eq]; omega, ps ++ [p], ?_, ?_, ?_⟩⟩
    · rw [upd_ne (ne_of_none s2 hp)]
      exact s2
    · intro b' o hb
      have hbD : b' ≠ D := ne_of_none hb hD
      rw [upd_ne hbD, upd_ne (ne_of_none (s1 b' o hb) hp)]
      exact s1 b' o hb
    · rw [upd_same, List.map_append]
      rfl
    · have ek : knKV[i]? = some (Sum.inl (KNOWNB[i].toNat : Int), V.str (tx [KNOWNB[i]])) := by
        unfold knKV
        rw [List.getElem?_map, ec]
        rfl
      rw [List.take_add_one, ek]
      have npD : p ≠ D := fun z => by
        rw [z, s2] at hp
        cases hp
      refine paired_snoc (paired_map (fun a kv h => ?_) s3) ?_
      · have h1 : a ≠ D := ne_of s2 h (fun z => by cases z) |>.symm
        rw [upd_ne h1, upd_ne (ne_of_none h hp)]
        exact h
      · rw [upd_ne npD, upd_same]
        rfl
  · rw [hlen] at s3
    have ek : knKV.take KNOWNB.length = knKV := List.take_of_length_le (by unfold knKV; rw [List.length_map]; exact Nat.le_refl _)
    rw [ek] at s3
    refine ⟨D, ps, knKV, rfl, SqL.of s2, paired_map (fun a kv h => SqT.of h) s3, fun d hd => ?_⟩
    have s4 : Same H (upd H1 d (.dK (mergeK [] knKV))) := s1.trans (same_new hd _)
    refine ⟨rfl, _, rfl, a, rfl, ⟨_, s4.seq hS⟩, fun D2 hD2 => ?_⟩
    have nd : d ≠ D2 := fun z => by
      rw [z, upd_same] at hD2
      cases hD2
    generalize hB : upd H1 d (.dK (mergeK [] knKV)) = HB at s4 hD2
    have hd2 : HB d = some (.dK (mergeK [] knKV)) := by rw [← hB]; exact upd_same
    refine lc_it walk_list (fun i H' => Same HB H' ∧ H' D2 = some (.lst (((b.take i).map fun c => tx [kn c]).map V.str))) ⟨same_new hD2 _, upd_same⟩ (fun i H' _ ⟨s5, _⟩ => s5.seq (s4.seq hS)) (fun i x H2 H3 hi ⟨s5, s6⟩ hy => ?_) (fun H2 ⟨s5, s6⟩ => ?_)
    · obtain ⟨rfl, hx⟩ := hy
      rw [List.length_map] at hi
      have eb : b[i]? = some b[i] := List.getElem?_eq_getElem hi
      rw [List.getElem?_map, eb] at hx
      cases hx
      have hd3 : H3 d = some (.dK (mergeK [] knKV)) := s5 _ _ hd2
      refine ⟨rfl, _, rfl, d, rfl, .inl ⟨_, .inl hd3⟩, _, rfl, _, DGet.k (k := Sum.inl (b[i].toNat : Int)) hd3, _, s6, by rw [List.length_map, List.length_map, List.length_take, sizeLine_eq]; omega, ?_, ?_⟩
      · intro b' o hb
        rw [upd_ne (ne_of_none hb hD2)]
        exact s5 b' o hb
      · rw [upd_same, kn_get, List.take_add_one, eb, List.map_append, List.map_append]
        rfl
    · rw [List.length_map, List.take_length] at s6
      refine ⟨_, D2, b.map fun c => tx [kn c], rfl, rfl, .inl (SqL.of s6), ?_, ?_⟩
      · have e1 : ((b.map fun c => tx [kn c]).map (·.length)).sum = b.length := by
          rw [List.map_map]
          have : ∀ l : Bytes, (l.map ((·.length) ∘ fun c => tx [kn c])).sum = l.length := by
            intro l
            induction l with
            | nil => rfl
            | cons c r ih =>
              rw [List.map_cons, List.sum_cons, ih, List.length_cons]
              show (tx [kn c]).length + r.length = r.length + 1
              rw [tx_len]
              show 1 + r.length = _
              omega
          exact this b
        have e2 : (Str.ofString "").length = 0 := by decide +kernel
        rw [e1, List.length_map, e2]
        omega
      · have e3 : (b.map fun c => tx [kn c]) = (b.map kn).map fun c => tx [c] := by rw [List.map_map]; rfl
        rw [e3, join_ones]
        exact q H2 (s4.trans s5)
end
theorem kn128 : ∀ c : UInt8, (kn c).toNat < 128 := all_u8 (p := fun c => (kn c).toNat < 128) (by decide +kernel)
def HO.isTup : HO → Bool
  | .tup _ => true
  | _ => false
/-- all but M is kept, and every tuple -/
def Kp (M : List Addr) (H H' : Hp) : Prop := ∀ b o, H b = some o → (b ∉ M ∨ HO.isTup o = true) → H' b = some o
theorem Kp.refl (M : List Addr) (H : Hp) : Kp M H H := fun _ _ h _ => h
theorem Kp.trans {M : List Addr} {H1 H2 H3 : Hp} (h1 : Kp M H1 H2) (h2 : Kp M H2 H3) : Kp M H1 H3 := fun b o h k => h2 b o (h1 b o h k) k
theorem Kp.mono {M N : List Addr} {H1 H2 : Hp} (h : Kp M H1 H2) (s : ∀ x ∈ M, x ∈ N) : Kp N H1 H2 := fun b o q k => h b o q (k.imp (fun z y => z (s b y)) id)
theorem Kp.same {M : List Addr} {H1 H2 : Hp} (h : Same H1 H2) : Kp M H1 H2 := fun b o q _ => h b o q
theorem Kp.put {M : List Addr} {H : Hp} {p : Addr} {o o' : HO} (hp : H p = some o) (ht : HO.isTup o = false) (hm : p ∈ M) : Kp M H (upd H p o') := fun b u h k => by
  by_cases e : b = p
  · subst e
    rw [hp] at h
    injection h with h
    subst h
    rcases k with k | k
    · exact absurd hm k
    · rw [ht] at k
      cases k
  · rw [upd_ne e]
    exact h
theorem Kp.new {M : List Addr} {H : Hp} {p : Addr} {o : HO} (hp : H p = none) : Kp M H (upd H p o) := Kp.same (same_new hp o)
theorem Kp.free {M : List Addr} {H H' : Hp} {p : Addr} (h : Kp M H H') (hm : p ∉ M) (hp : H' p = none) : H p = none := by
  cases e : H p with
  | none => rfl
  | some o => rw [h p o e (.inl hm)] at hp; cases hp
/-- what is new on the way may be left out -/
theorem Kp.drop {M : List Addr} {H H1 H2 : Hp} {p : Addr} (h1 : Kp M H H1) (h2 : Kp (p :: M) H1 H2) (hp : H p = none) : Kp M H H2 := fun b o q k => by
  refine h2 b o (h1 b o q k) ?_
  rcases k with k | k
  · refine .inl fun z => ?_
    rcases List.mem_cons.mp z with e | m
    · rw [e, hp] at q
      cases q
    · exact k m
  · exact .inr k
theorem paired_at {α β : Type} {R : α → β → Prop} : ∀ {l : List α} {m : List β} (h : Paired R l m) (i : Nat) (y : β), m[i]? = some y → ∃ x, l[i]? = some x ∧ R x y
  | _, _, .nil, i, y, e => by simp at e
  | _, _, .cons r p, 0, y, e => by
    simp only [List.getElem?_cons_zero, Option.some.injEq] at e
    subst e
    exact ⟨_, rfl, r⟩
  | _, _, .cons r p, i + 1, y, e => by
    rw [List.getElem?_cons_succ] at e ⊢
    exact paired_at p i y e
structure Fn1 (K : PySem.W.Frag) (mg : Str → Option Value) (x : Str) (st : Stmt) (ps : List Str) (f : Addr) (fd : FuncData) : Prop where
  F : L2.Fun K x x st f fd
  b : L2.Binds K fd ps []
  m : mg x = some (.ref f)
structure Mt1 (K : PySem.W.Frag) (C : Addr) (x q : Str) (st : Stmt) (ps : List Str) (f : Addr) (fd : FuncData) : Prop where
  F : L2.Fun K x q st f fd
  b : L2.Binds K fd ps []
  m : L2.Meth K C x f
theorem dec_tx (a b : Bytes) : (tx a == tx b) = decide (a = b) := by
  by_cases e : a = b
  · subst e
    simp
  · rw [decide_eq_false e]
    exact beq_eq_false_iff_ne.mpr fun z => e (tx_inj z)
theorem dec_str (a b : Bytes) : decide (V.str (tx a) = V.str (tx b)) = decide (a = b) := by
  by_cases e : a = b
  · subst e
    simp
  · rw [decide_eq_false e]
    exact decide_eq_false fun z => e (tx_inj (by injection z))
theorem pa1 {v : V} {σ : L2.St} {H : Hp} {R : List V → Hp → Prop} (h : R [v] H) : tCons (tC v) tNil σ H R := h
end SDP
set_option Elab.async false
/-! # Fractions as two whole numbers, in lowest terms or not -/
namespace SR
open SeamNum
/-- q is n / d, d above 0 -/
def Rep (q : Rat) (n d : Int) : Prop := 0 < d ∧ q = Rat.divInt n d
theorem den_pos (q : Rat) : (0 : Int) < q.den := by
  have := q.den_nz
  omega
theorem Rep.of (q : Rat) : Rep q q.num q.den := ⟨den_pos q, (Rat.num_divInt_den q).symm⟩
variable {q r : Rat} {n d m e : Int}
theorem Rep.cross (h : Rep q n d) : q.num * d = n * q.den := by
  obtain ⟨h1, h2⟩ := h
  have z : Rat.divInt q.num q.den = Rat.divInt n d := by rw [Rat.num_divInt_den]; exact h2
  have hq := den_pos q
  exact (Rat.divInt_eq_divInt_iff (by omega) (by omega)).mp z
theorem Rep.add (h : Rep q n d) (k : Rep r m e) : Rep (q + r) (n * e + m * d) (d * e) := by
  obtain ⟨h1, h2⟩ := h
  obtain ⟨k1, k2⟩ := k
  exact ⟨Int.mul_pos h1 k1, by rw [h2, k2, Rat.divInt_add_divInt _ _ (by omega) (by omega)]⟩
theorem Rep.sub (h : Rep q n d) (k : Rep r m e) : Rep (q - r) (n * e - m * d) (d * e) := by
  obtain ⟨h1, h2⟩ := h
  obtain ⟨k1, k2⟩ := k
  exact ⟨Int.mul_pos h1 k1, by rw [h2, k2, Rat.divInt_sub_divInt _ _ (by omega) (by omega)]⟩
theorem Rep.mul (h : Rep q n d) (k : Rep r m e) : Rep (q * r) (n * m) (d * e) := by
  obtain ⟨h1, h2⟩ := h
  obtain ⟨k1, k2⟩ := k
  exact ⟨Int.mul_pos h1 k1, by rw [h2, k2, Rat.divInt_mul_divInt]⟩
theorem Rep.neg (h : Rep q n d) : Rep (-q) (-n) d := ⟨h.1, by rw [h.2, Rat.neg_divInt]⟩
theorem div_flip (n d : Int) (hd : d ≠ 0) (hn : n ≠ 0) : Rat.divInt d n = Rat.divInt (-d) (-n) := (Rat.divInt_eq_divInt_iff hn (by omega)).mpr (by rw [Int.mul_neg, Int.neg_mul])
theorem Rep.inv_pos (h : Rep q n d) (hn : 0 < n) : Rep q⁻¹ d n := ⟨hn, by rw [h.2, Rat.inv_divInt]⟩
theorem Rep.inv_neg (h : Rep q n d) (hn : n < 0) : Rep q⁻¹ (-d) (-n) := ⟨by omega, by rw [h.2, Rat.inv_divInt]; exact div_flip n d (by have := h.1; omega) (by omega)⟩
theorem Rep.div_pos (h : Rep q n d) (k : Rep r m e) (hm : 0 < m) : Rep (q / r) (n * e) (d * m) := by
  rw [Rat.div_def]
  exact h.mul (k.inv_pos hm)
theorem Rep.div_neg (h : Rep q n d) (k : Rep r m e) (hm : m < 0) : Rep (q / r) (n * -e) (d * -m) := by
  rw [Rat.div_def]
  exact h.mul (k.inv_neg hm)
theorem Rep.eq_iff (h : Rep q n d) (k : Rep r m e) : q = r ↔ n * e = m * d := by
  obtain ⟨h1, h2⟩ := h
  obtain ⟨k1, k2⟩ := k
  rw [h2, k2]
  exact Rat.divInt_eq_divInt_iff (by omega) (by omega)
theorem Rep.zero : Rep 0 0 1 := ⟨by decide, (Rat.zero_divInt 1).symm⟩
theorem Rep.int (z : Int) : Rep (z : Rat) z 1 := Rep.of (z : Rat)
theorem Rep.zero_iff (h : Rep q n d) : q = 0 ↔ n = 0 := by
  have z := h.eq_iff Rep.zero
  rw [Int.mul_one, Int.zero_mul] at z
  exact z
/-- both sides times what's above 0 -/
theorem lt_times {a b k : Int} (hk : 0 < k) : a * k < b * k ↔ a < b := by
  constructor
  · intro h
    exact Int.lt_of_mul_lt_mul_right h (Int.le_of_lt hk)
  · intro h
    exact Int.mul_lt_mul_of_pos_right h hk
theorem Rep.lt_iff (h : Rep q n d) (k : Rep r m e) : q < r ↔ n * e < m * d := by
  have hq := den_pos q
  have hr := den_pos r
  have c1 := h.cross
  have c2 := k.cross
  rw [Rat.lt_iff]
  have hde := Int.mul_pos h.1 k.1
  have hqr := Int.mul_pos hq hr
  rw [← lt_times (a := q.num * r.den) hde, ← lt_times (a := n * e) hqr]
  have e1 : q.num * r.den * (d * e) = n * e * (q.den * r.den) := by
    have z : q.num * r.den * (d * e) = (q.num * d) * (r.den * e) := by
      simp only [Int.mul_assoc, Int.mul_left_comm, Int.mul_comm]
    rw [z, c1]
    simp only [Int.mul_assoc, Int.mul_left_comm, Int.mul_comm]
  have e2 : r.num * q.den * (d * e) = m * d * (q.den * r.den) := by
    have z : r.num * q.den * (d * e) = (r.num * e) * (q.den * d) := by
      simp only [Int.mul_assoc, Int.mul_left_comm, Int.mul_comm]
    rw [z, c2]
    simp only [Int.mul_assoc, Int.mul_left_comm, Int.mul_comm]
  rw [e1, e2]
theorem Rep.le_iff (h : Rep q n d) (k : Rep r m e) : q ≤ r ↔ n * e ≤ m * d := by
  have z := k.lt_iff h
  rw [← Rat.not_lt, z, Int.not_lt]
theorem Rep.pos_iff (h : Rep q n d) : 0 < q ↔ 0 < n := by
  have z := Rep.zero.lt_iff h
  rw [Int.zero_mul, Int.mul_one] at z
  exact z
theorem Rep.neg_iff (h : Rep q n d) : q < 0 ↔ n < 0 := by
  have z := h.lt_iff Rep.zero
  rw [Int.zero_mul, Int.mul_one] at z
  exact z
/-- in lowest terms -/
theorem Rep.red (h : Rep q n d) (g : Int.gcd n d = 1) : q.num = n ∧ (q.den : Int) = d := by
  obtain ⟨h1, h2⟩ := h
  have hd : d = (d.toNat : Int) := by omega
  have dz : d.toNat ≠ 0 := by omega
  have g' : d.toNat.gcd n.natAbs = 1 := by
    have z : Int.gcd n d = Nat.gcd n.natAbs d.natAbs := rfl
    rw [Nat.gcd_comm]
    rw [z] at g
    have za : d.natAbs = d.toNat := by omega
    rw [za] at g
    exact g
  rw [hd, Rat.divInt_ofNat] at h2
  constructor
  · rw [h2, Rat.num_mkRat, if_neg dz, g']
    exact Int.ediv_one n
  · rw [h2, Rat.den_mkRat, if_neg dz, g', Nat.div_one]
    omega
/-- made so -/
theorem Rep.cut (h : Rep q n d) : Rep q (n / Int.gcd n d) (d / Int.gcd n d) ∧ Int.gcd (n / Int.gcd n d) (d / Int.gcd n d) = 1 := by
  obtain ⟨h1, h2⟩ := h
  have gp : 0 < Int.gcd n d := Int.gcd_pos_of_ne_zero_right n (by omega)
  have gz : (Int.gcd n d : Int) ≠ 0 := by omega
  have dn := Int.gcd_dvd_left n d
  have dd := Int.gcd_dvd_right n d
  have en := Int.ediv_mul_cancel dn
  have ed := Int.ediv_mul_cancel dd
  refine ⟨⟨?_, ?_⟩, ?_⟩
  · exact Int.ediv_pos_of_pos_of_dvd h1 (by omega) dd
  · have z := Rat.divInt_mul_right (n := n / Int.gcd n d) (d := d / Int.gcd n d) gz
    rw [en, ed] at z
    rw [h2, z]
  · exact Int.gcd_ediv_gcd_ediv_gcd gp
theorem Rep.fits_iff (h : Rep q n d) (g : Int.gcd n d = 1) : fits q = (decide (n.natAbs ≤ FINE) && decide (d ≤ FINE)) := by
  obtain ⟨e1, e2⟩ := h.red g
  unfold fits
  rw [e1]
  congr 1
  have z : q.den ≤ FINE ↔ d ≤ (FINE : Int) := by omega
  simp only [z]
theorem Rep.unique (h : Rep q n d) (k : Rep q m e) (g : Int.gcd n d = 1) (g' : Int.gcd m e = 1) : n = m ∧ d = e := by
  obtain ⟨a1, a2⟩ := h.red g
  obtain ⟨b1, b2⟩ := k.red g'
  exact ⟨by rw [← a1, b1], by rw [← a2, b2]⟩
/-- Euclid -/
theorem gcd_step (a b : Nat) : Nat.gcd a b = Nat.gcd b (a % b) := by
  rw [Nat.gcd_comm a b, Nat.gcd_rec b a, Nat.gcd_comm]
end SR
set_option Elab.async false
/-! # Texts parted at a byte; lines, words; numbers' texts read -/
namespace SR
open SeamNum SeamPattern SD

/-! ### parted at a byte -/
def partsB (c : UInt8) : Bytes → List Bytes
  | [] => [[]]
  | x :: r => if x = c then [] :: partsB c r else match partsB c r with
    | [] => [[x]]
    | y :: l => (x :: y) :: l
theorem partsB_ne (c : UInt8) (b : Bytes) : partsB c b ≠ [] := by
  cases b with
  | nil => simp [partsB]
  | cons x r =>
    unfold partsB
    by_cases h : x = c
    · rw [if_pos h]; simp
    · rw [if_neg h]
      split <;> simp
theorem wordsOf_parts : ∀ b : Bytes, wordsOf b = partsB 32 b
  | [] => rfl
  | c :: r => by
    rw [wordsOf, partsB, wordsOf_parts r]
    cases partsB 32 r <;> rfl
theorem partsB_at (c : UInt8) : ∀ (x r : Bytes), c ∉ x → partsB c (x ++ c :: r) = x :: partsB c r
  | [], r, _ => by
    show partsB c (c :: r) = _
    rw [partsB, if_pos rfl]
  | y :: x, r, h => by
    have hy : y ≠ c := fun z => h (z ▸ List.mem_cons_self ..)
    have hx : c ∉ x := fun z => h (List.mem_cons_of_mem _ z)
    show partsB c (y :: (x ++ c :: r)) = _
    rw [partsB, if_neg hy, partsB_at c x r hx]
theorem partsB_none (c : UInt8) : ∀ (x : Bytes), c ∉ x → partsB c x = [x]
  | [], _ => rfl
  | y :: x, h => by
    have hy : y ≠ c := fun z => h (z ▸ List.mem_cons_self ..)
    have hx : c ∉ x := fun z => h (List.mem_cons_of_mem _ z)
    rw [partsB, if_neg hy, partsB_none c x hx]
/-- no part has the byte -/
theorem partsB_free (c : UInt8) : ∀ (b : Bytes), ∀ w ∈ partsB c b, c ∉ w
  | [], w, hw => by
    simp only [partsB, List.mem_singleton] at hw
    rw [hw]
    simp
  | x :: r, w, hw => by
    have ih := partsB_free c r
    rw [partsB] at hw
    by_cases h : x = c
    · rw [if_pos h] at hw
      rcases List.mem_cons.mp hw with z | z
      · rw [z]; simp
      · exact ih w z
    · rw [if_neg h] at hw
      cases hq : partsB c r with
      | nil => exact absurd hq (partsB_ne c r)
      | cons y l =>
        rw [hq] at hw ih
        rcases List.mem_cons.mp hw with z | z
        · rw [z]
          intro q
          rcases List.mem_cons.mp q with q | q
          · exact h q.symm
          · exact ih y (List.mem_cons_self ..) q
        · exact ih w (List.mem_cons_of_mem _ z)
/-- what stands in a part stood in the text -/
theorem partsB_mem (c : UInt8) : ∀ (b : Bytes), ∀ w ∈ partsB c b, ∀ x ∈ w, x ∈ b
  | [], w, hw, x, hx => by
    simp only [partsB, List.mem_singleton] at hw
    rw [hw] at hx
    exact hx
  | y :: r, w, hw, x, hx => by
    have ih := partsB_mem c r
    rw [partsB] at hw
    by_cases h : y = c
    · rw [if_pos h] at hw
      rcases List.mem_cons.mp hw with z | z
      · rw [z] at hx; cases hx
      · exact List.mem_cons_of_mem _ (ih w z x hx)
    · rw [if_neg h] at hw
      cases hq : partsB c r with
      | nil => exact absurd hq (partsB_ne c r)
      | cons v l =>
        rw [hq] at hw ih
        rcases List.mem_cons.mp hw with z | z
        · rw [z] at hx
          rcases List.mem_cons.mp hx with q | q
          · rw [q]; exact List.mem_cons_self ..
          · exact List.mem_cons_of_mem _ (ih v (List.mem_cons_self ..) x q)
        · exact List.mem_cons_of_mem _ (ih w (List.mem_cons_of_mem _ z) x hx)
theorem partsB_len (c : UInt8) : ∀ (b : Bytes), (partsB c b).length ≤ b.length + 1
  | [] => by simp [partsB]
  | y :: r => by
    have ih := partsB_len c r
    rw [partsB]
    by_cases h : y = c
    · rw [if_pos h]
      simp only [List.length_cons]
      omega
    · rw [if_neg h]
      cases hq : partsB c r with
      | nil => exact absurd hq (partsB_ne c r)
      | cons v l =>
        rw [hq] at ih
        simp only [List.length_cons] at ih ⊢
        omega
/-- put together again -/
def joinB (c : UInt8) : List Bytes → Bytes
  | [] => []
  | [b] => b
  | b :: d :: r => b ++ (c :: joinB c (d :: r))
theorem spaced_join : ∀ l : List Bytes, spaced l = joinB 32 l
  | [] => rfl
  | [_] => rfl
  | b :: d :: r => by
    unfold spaced joinB
    rw [spaced_join (d :: r)]
theorem joinB_cons (c x : UInt8) (y : Bytes) (l : List Bytes) : joinB c ((x :: y) :: l) = x :: joinB c (y :: l) := by
  cases l <;> rfl
theorem joinB_parts (c : UInt8) : ∀ b : Bytes, joinB c (partsB c b) = b
  | [] => rfl
  | x :: r => by
    have ih := joinB_parts c r
    rw [partsB]
    cases hq : partsB c r with
    | nil => exact absurd hq (partsB_ne c r)
    | cons v l =>
      rw [hq] at ih
      by_cases h : x = c
      · rw [if_pos h]
        show [] ++ (c :: joinB c (v :: l)) = _
        rw [ih, h]
        rfl
      · rw [if_neg h]
        show joinB c ((x :: v) :: l) = _
        rw [joinB_cons, ih]
theorem partsB_join (c : UInt8) : ∀ l : List Bytes, l ≠ [] → (∀ w ∈ l, c ∉ w) → partsB c (joinB c l) = l
  | [], h, _ => absurd rfl h
  | [b], _, h => partsB_none c b (h b (List.mem_cons_self ..))
  | b :: d :: r, _, h => by
    show partsB c (b ++ (c :: joinB c (d :: r))) = _
    rw [partsB_at c b _ (h b (List.mem_cons_self ..)), partsB_join c (d :: r) (by simp) fun w hw => h w (List.mem_cons_of_mem _ hw)]
/-- **Lines**: the parts but the last; and that -/
theorem linesOf_parts : ∀ b : Bytes, linesOf b = ((partsB 10 b).dropLast, (partsB 10 b).getLastD [])
  | [] => rfl
  | c :: r => by
    unfold linesOf partsB
    rw [linesOf_parts r]
    cases hq : partsB 10 r with
    | nil => exact absurd hq (partsB_ne 10 r)
    | cons v l =>
      by_cases h : c = 10
      · simp only [if_pos h]
        rfl
      · simp only [if_neg h]
        cases l with
        | nil => rfl
        | cons w l => rfl
theorem linesOf_line (x r : Bytes) (h : (10 : UInt8) ∉ x) : linesOf (x ++ 10 :: r) = (x :: (linesOf r).1, (linesOf r).2) := by
  rw [linesOf_parts, linesOf_parts r, partsB_at 10 x r h]
  cases hq : partsB 10 r with
  | nil => exact absurd hq (partsB_ne 10 r)
  | cons v l => rfl
theorem linesOf_last (x : Bytes) (h : (10 : UInt8) ∉ x) : linesOf x = ([], x) := by
  rw [linesOf_parts, partsB_none 10 x h]
  rfl
/-- how many lines: how many bytes 10 -/
theorem linesOf_count : ∀ b : Bytes, (linesOf b).1.length = b.count 10
  | [] => rfl
  | c :: r => by
    have ih := linesOf_count r
    unfold linesOf
    by_cases h : c = 10
    · rw [h, if_pos rfl, List.count_cons_self, ← ih]
      rfl
    · rw [if_neg h, List.count_cons_of_ne h, ← ih]
      cases hq : (linesOf r).1 with
      | nil => rfl
      | cons v l => rfl
/-- nothing behind the last 10 -/
theorem linesOf_end : ∀ b : Bytes, (linesOf b).2 = [] ↔ b = [] ∨ b.getLast? = some 10
  | [] => by simp [linesOf]
  | c :: r => by
    have ih := linesOf_end r
    unfold linesOf
    by_cases h : c = 10
    · rw [if_pos h]
      simp only [h]
      rw [ih]
      cases r with
      | nil => simp
      | cons d r => simp [List.getLast?_cons_cons]
    · rw [if_neg h]
      cases hq : (linesOf r).1 with
      | nil =>
        simp only
        cases r with
        | nil => simp [h]
        | cons d r =>
          have q := linesOf_count (d :: r)
          rw [hq] at q
          have nm : (10 : UInt8) ∉ (d :: r) := by
            intro z
            have := List.count_pos_iff.mpr z
            simp at q
            omega
          simp only [List.getLast?_cons_cons]
          constructor
          · intro z; simp at z
          · intro z
            rcases z with z | z
            · simp at z
            · exact absurd (List.mem_of_getLast? z) nm
      | cons v l =>
        simp only
        rw [ih]
        cases r with
        | nil => simp [linesOf] at hq
        | cons d r => simp [List.getLast?_cons_cons]

/-! ### before and behind the first of a byte -/
theorem cutAt_at (c : UInt8) : ∀ (x r : Bytes), c ∉ x → cutAt c (x ++ c :: r) = (x, some r)
  | [], r, _ => by
    show cutAt c (c :: r) = _
    rw [cutAt, if_pos rfl]
  | y :: x, r, h => by
    have hy : y ≠ c := fun z => h (z ▸ List.mem_cons_self ..)
    have hx : c ∉ x := fun z => h (List.mem_cons_of_mem _ z)
    show cutAt c (y :: (x ++ c :: r)) = _
    rw [cutAt, if_neg hy, cutAt_at c x r hx]
theorem cutAt_none (c : UInt8) : ∀ (x : Bytes), c ∉ x → cutAt c x = (x, none)
  | [], _ => rfl
  | y :: x, h => by
    have hy : y ≠ c := fun z => h (z ▸ List.mem_cons_self ..)
    have hx : c ∉ x := fun z => h (List.mem_cons_of_mem _ z)
    rw [cutAt, if_neg hy, cutAt_none c x hx]
theorem cutAt_parts (c : UInt8) (b : Bytes) : cutAt c b = ((partsB c b).headD [], match partsB c b with
    | _ :: l => if l = [] then none else some (joinB c l)
    | [] => none) := by
  by_cases h : c ∈ b
  · obtain ⟨x, r, e, hx⟩ := List.eq_append_cons_of_mem h
    rw [e, cutAt_at c x r hx, partsB_at c x r hx]
    have : partsB c r ≠ [] := partsB_ne c r
    simp only [List.headD_cons, if_neg this]
    rw [joinB_parts]
  · rw [cutAt_none c b h, partsB_none c b h]
    rfl
end SR
set_option Elab.async false
/-! # Numbers' texts, read and printed -/
namespace SR
open SeamNum SeamPattern SD

/-! ### decimals -/
theorem digit_of : ∀ d : Nat, d < 10 → ∃ c : UInt8, isDigit c = true ∧ dg c = d := by
  intro d hd
  refine ⟨UInt8.ofNat (48 + d), ?_, ?_⟩
  · unfold isDigit
    simp only [Bool.and_eq_true, decide_eq_true_eq, UInt8.le_iff_toNat_le, UInt8.toNat_ofNat', UInt8.reduceToNat]
    omega
  · unfold dg
    simp only [UInt8.toNat_ofNat']
    omega
theorem decimal_both : ∀ n : Nat, (∀ c ∈ decimal n, isDigit c = true) ∧ natOf (decimal n) = n := by
  intro n
  induction n using Nat.strongRecOn with
  | _ n ih =>
    by_cases h : n < 10
    · obtain ⟨c, hc, e⟩ := digit_of n h
      have q := decimal_dg hc
      rw [e] at q
      rw [q]
      refine ⟨fun x hx => by rw [List.mem_singleton.mp hx]; exact hc, ?_⟩
      show 10 * 0 + (c.toNat - 48) = n
      unfold dg at e
      omega
    · obtain ⟨c, hc, e⟩ := digit_of (n % 10) (by omega)
      have q := decimal_step (n := n / 10) (c := c) (by omega) hc
      rw [e] at q
      have z : 10 * (n / 10) + n % 10 = n := by omega
      rw [z] at q
      obtain ⟨i1, i2⟩ := ih (n / 10) (by omega)
      rw [q]
      refine ⟨fun x hx => ?_, ?_⟩
      · rcases List.mem_append.mp hx with y | y
        · exact i1 x y
        · rw [List.mem_singleton.mp y]; exact hc
      · rw [natOf_snoc, i2, e]
        omega
theorem decimal_digits (n : Nat) : ∀ c ∈ decimal n, isDigit c = true := (decimal_both n).1
theorem natOf_decimal (n : Nat) : natOf (decimal n) = n := (decimal_both n).2
theorem decimal_inj {m n : Nat} (h : decimal m = decimal n) : m = n := by rw [← natOf_decimal m, ← natOf_decimal n, h]
theorem decimal_ne (n : Nat) : decimal n ≠ [] := by
  intro h
  by_cases z : n = 0
  · subst z
    exact absurd h (by decide +kernel)
  · have q := natOf_decimal n
    rw [h] at q
    exact z q.symm
theorem digit_ne {c d : UInt8} (h : isDigit c = true) (k : isDigit d = false) : c ≠ d := fun z => by rw [z, k] at h; cases h
theorem decimal_free (n : Nat) {c : UInt8} (k : isDigit c = false) : c ∉ decimal n := fun h => absurd (decimal_digits n c h) (by rw [k]; simp)

/-! ### a whole number's text -/
/-- digits, no nought in front but nought itself -/
def Canon (b : Bytes) : Prop := b ≠ [] ∧ (∀ c ∈ b, isDigit c = true) ∧ (b = [48] ∨ b.headD 0 ≠ 48)
theorem canon_iff (b : Bytes) : (b ≠ [] ∧ b.all isDigit = true ∧ decimal (natOf b) = b) ↔ Canon b := by
  unfold Canon
  rw [List.all_eq_true]
  constructor
  · intro ⟨h1, h2, h3⟩
    refine ⟨h1, h2, ?_⟩
    rw [decimal_natOf b h2] at h3
    cases b with
    | nil => exact absurd rfl h1
    | cons c r =>
      by_cases e : c = 48
      · left
        subst e
        have e2 : noNull (48 :: r) = noNull r := by
          unfold noNull
          rw [List.dropWhile_cons, if_pos (beq_self_eq_true _)]
        rw [e2] at h3
        unfold orNull at h3
        by_cases z : noNull r = []
        · rw [if_pos z] at h3
          exact h3.symm
        · rw [if_neg z] at h3
          have l1 : (noNull r).length ≤ r.length := by
            unfold noNull
            exact (List.dropWhile_sublist _).length_le
          have l2 := congrArg List.length h3
          simp only [List.length_cons] at l2
          omega
      · right
        exact e
  · intro ⟨h1, h2, h3⟩
    refine ⟨h1, h2, ?_⟩
    rw [decimal_natOf b h2]
    rcases h3 with z | z
    · rw [z]
      decide +kernel
    · cases b with
      | nil => exact absurd rfl h1
      | cons c r =>
        have e2 : noNull (c :: r) = c :: r := by
          unfold noNull
          rw [List.dropWhile_cons, if_neg (by simpa using z)]
        rw [e2]
        rfl
theorem readNat_yes {b : Bytes} (h : Canon b) : readNat b = some (natOf b) := by
  unfold readNat
  rw [if_pos ((canon_iff b).mpr h)]
theorem readNat_no {b : Bytes} (h : ¬ Canon b) : readNat b = none := by
  unfold readNat
  rw [if_neg fun z => h ((canon_iff b).mp z)]
theorem readNat_some {b : Bytes} {n : Nat} (h : readNat b = some n) : Canon b ∧ n = natOf b ∧ b = decimal n := by
  unfold readNat at h
  by_cases z : b ≠ [] ∧ b.all isDigit = true ∧ decimal (natOf b) = b
  · rw [if_pos z] at h
    cases h
    exact ⟨(canon_iff b).mp z, rfl, z.2.2.symm⟩
  · rw [if_neg z] at h
    cases h
theorem canon_decimal (n : Nat) : Canon (decimal n) := (canon_iff _).mp ⟨decimal_ne n, List.all_eq_true.mpr (decimal_digits n), by rw [natOf_decimal]⟩
theorem readNat_decimal (n : Nat) : readNat (decimal n) = some n := by rw [readNat_yes (canon_decimal n), natOf_decimal]

/-! ### a number's text -/
/-- what may stand so: whether with -, over, under, whether with / -/
def numOk (neg : Bool) (p q : Nat) (slash : Bool) : Bool := decide (q ≠ 0) && (decide (Nat.gcd p q = 1) && (decide (p ≤ FINE) && (decide (q ≤ FINE) && ((!slash || decide (q ≠ 1)) && (!neg || decide (p ≠ 0))))))
def signed (neg : Bool) (p : Nat) : Int := if neg = true then -(p : Int) else (p : Int)
def stripped (b : Bytes) : Bool × Bytes := match b with
  | 45 :: r => (true, r)
  | _ => (false, b)
theorem stripped_neg (r : Bytes) : stripped (45 :: r) = (true, r) := rfl
theorem stripped_pos {b : Bytes} (h : b.headD 0 ≠ 45) : stripped b = (false, b) := by
  unfold stripped
  split
  · rename_i r
    exact absurd rfl h
  · rfl
theorem stripped_back (b : Bytes) : (if (stripped b).1 = true then [45] else []) ++ (stripped b).2 = b := by
  by_cases h : b.headD 0 = 45
  · cases b with
    | nil => exact absurd h (by decide)
    | cons c r =>
      have : c = 45 := h
      subst this
      rfl
  · rw [stripped_pos h]
    rfl
/-- **in lowest terms, printed** -/
theorem numText_red {x : Rat} {n d : Int} (h : Rep x n d) (g : Int.gcd n d = 1) : numText x = (if n < 0 then [45] else []) ++ (decimal n.natAbs ++ (if d = 1 then [] else 47 :: decimal d.natAbs)) := by
  obtain ⟨e1, e2⟩ := h.red g
  have q := h.neg_iff
  have z1 : (x.den : Int).natAbs = x.den := Int.natAbs_natCast _
  rw [e2] at z1
  unfold numText
  simp only [q, e1, ← z1]
  have z2 : (d.natAbs = 1) ↔ d = 1 := by have := h.1; omega
  simp only [z2]
theorem signed_abs (neg : Bool) (p : Nat) : (signed neg p).natAbs = p := by
  unfold signed
  split <;> omega
theorem signed_lt (neg : Bool) (p : Nat) : signed neg p < 0 ↔ neg = true ∧ p ≠ 0 := by
  unfold signed
  split
  · rename_i h; simp [h]; omega
  · rename_i h; simp [h]
/-- over and under in their one form are told by it -/
theorem numText_cut (x : Rat) : cutAt 47 (stripped (numText x)).2 = (decimal x.num.natAbs, if x.den = 1 then none else some (decimal x.den)) ∧ (stripped (numText x)).1 = decide (x < 0) := by
  have hd : ∀ n, (47 : UInt8) ∉ decimal n := fun n => decimal_free n (by decide)
  have hc : cutAt 47 (decimal x.num.natAbs ++ (if x.den = 1 then [] else 47 :: decimal x.den)) = (decimal x.num.natAbs, if x.den = 1 then none else some (decimal x.den)) := by
    by_cases h : x.den = 1
    · rw [if_pos h, if_pos h, List.append_nil]
      exact cutAt_none 47 _ (hd _)
    · rw [if_neg h, if_neg h]
      exact cutAt_at 47 _ _ (hd _)
  unfold numText
  by_cases h : x < 0
  · rw [if_pos h]
    show cutAt 47 (decimal x.num.natAbs ++ _) = _ ∧ true = _
    exact ⟨hc, by simp [h]⟩
  · rw [if_neg h, List.nil_append]
    have hh : (decimal x.num.natAbs ++ (if x.den = 1 then [] else 47 :: decimal x.den)).headD 0 ≠ 45 := by
      cases hq : decimal x.num.natAbs with
      | nil => exact absurd hq (decimal_ne _)
      | cons c r =>
        show c ≠ 45
        exact digit_ne (decimal_digits x.num.natAbs c (by rw [hq]; exact List.mem_cons_self ..)) (by decide)
    rw [stripped_pos hh]
    exact ⟨hc, by simp [h]⟩
/-- what is meant by over and under -/
theorem meant (neg : Bool) (p q : Nat) (hq : q ≠ 0) : Rep ((if neg = true then -(p : Rat) else (p : Rat)) / (q : Rat)) (signed neg p) q := by
  have hp : Rep (if neg = true then -(p : Rat) else (p : Rat)) (signed neg p) 1 := by
    unfold signed
    by_cases h : neg = true
    · rw [if_pos h, if_pos h]
      exact (Rep.int (p : Int)).neg
    · rw [if_neg h, if_neg h]
      exact Rep.int (p : Int)
  have z := hp.div_pos (Rep.int (q : Int)) (by omega)
  rw [Int.mul_one, Int.one_mul] at z
  exact z
theorem rep_zero_div (x : Rat) : x / (0 : Rat) = 0 := by rw [Rat.div_def, Rat.inv_zero, Rat.mul_zero]

/-- **What the two numbers of a text make** -/
theorem numbers_made {neg : Bool} {p q : Nat} {slash : Bool} {b : Bytes} (hb : b = (if neg = true then [45] else []) ++ (decimal p ++ (if slash = true then 47 :: decimal q else []))) (h1 : slash = false → q = 1) :
    (let x : Rat := if q = 0 then 0 else (if neg = true then -(p : Rat) else (p : Rat)) / (q : Rat)
      if q ≠ 0 ∧ fits x = true ∧ numText x = b then some x else none) = if numOk neg p q slash = true then some (Rat.divInt (signed neg p) q) else none := by
  show (if q ≠ 0 ∧ fits (if q = 0 then 0 else (if neg = true then -(p : Rat) else (p : Rat)) / (q : Rat)) = true ∧ numText (if q = 0 then 0 else (if neg = true then -(p : Rat) else (p : Rat)) / (q : Rat)) = b then some (if q = 0 then 0 else (if neg = true then -(p : Rat) else (p : Rat)) / (q : Rat)) else none) = _
  by_cases hq : q = 0
  · have : numOk neg p q slash = false := by unfold numOk; simp [hq]
    rw [this, if_neg (fun z => z.1 hq)]
    rfl
  · rw [if_neg hq]
    generalize hx : (if neg = true then -(p : Rat) else (p : Rat)) / (q : Rat) = x
    have hr : Rep x (signed neg p) q := hx ▸ meant neg p q hq
    have hxe : x = Rat.divInt (signed neg p) q := hr.2
    have hg : Int.gcd (signed neg p) (q : Int) = Nat.gcd p q := by
      show Nat.gcd (signed neg p).natAbs (q : Int).natAbs = _
      rw [signed_abs, Int.natAbs_natCast]
    have key : (q ≠ 0 ∧ fits x = true ∧ numText x = b) ↔ numOk neg p q slash = true := by
      unfold numOk
      simp only [Bool.and_eq_true, Bool.or_eq_true, decide_eq_true_eq, Bool.not_eq_true']
      constructor
      · intro ⟨_, hf, ht⟩
        -- the text tells over and under
        obtain ⟨c1, c2⟩ := numText_cut x
        have hd : ∀ n, (47 : UInt8) ∉ decimal n := fun n => decimal_free n (by decide)
        have bs : stripped b = (neg, decimal p ++ (if slash = true then 47 :: decimal q else [])) := by
          rw [hb]
          by_cases hn : neg = true
          · rw [if_pos hn, hn]
            rfl
          · rw [if_neg hn, List.nil_append]
            have hh : (decimal p ++ (if slash = true then 47 :: decimal q else [])).headD 0 ≠ 45 := by
              cases hz : decimal p with
              | nil => exact absurd hz (decimal_ne _)
              | cons c r =>
                show c ≠ 45
                exact digit_ne (decimal_digits p c (by rw [hz]; exact List.mem_cons_self ..)) (by decide)
            rw [stripped_pos hh]
            have : neg = false := by simpa using hn
            rw [this]
        have bc : cutAt 47 (decimal p ++ (if slash = true then 47 :: decimal q else [])) = (decimal p, if slash = true then some (decimal q) else none) := by
          by_cases h : slash = true
          · rw [if_pos h, if_pos h]
            exact cutAt_at 47 _ _ (hd _)
          · rw [if_neg h, if_neg h, List.append_nil]
            exact cutAt_none 47 _ (hd _)
        rw [ht, bs] at c1 c2
        simp only at c1 c2
        rw [bc] at c1
        have e1 : decimal p = decimal x.num.natAbs := congrArg Prod.fst c1
        have e2 : (if slash = true then some (decimal q) else none) = (if x.den = 1 then none else some (decimal x.den)) := congrArg Prod.snd c1
        have ep := decimal_inj e1
        have eq : q = x.den ∧ (slash = true → q ≠ 1) := by
          by_cases h : slash = true
          · rw [if_pos h] at e2
            by_cases hd1 : x.den = 1
            · rw [if_pos hd1] at e2; cases e2
            · rw [if_neg hd1] at e2
              have := decimal_inj (Option.some.inj e2)
              exact ⟨this, fun _ z => hd1 (this ▸ z)⟩
          · rw [if_neg h] at e2
            by_cases hd1 : x.den = 1
            · have := h1 (by simpa using h)
              exact ⟨by rw [this, hd1], fun z => absurd z h⟩
            · rw [if_neg hd1] at e2; cases e2
        have gc : Nat.gcd p q = 1 := by
          rw [ep, eq.1]
          exact x.reduced
        refine ⟨hq, gc, ?_, ?_, ?_, ?_⟩
        · have z := hr.fits_iff (hg.trans gc)
          rw [hf, signed_abs] at z
          have := z.symm
          simp only [Bool.and_eq_true, decide_eq_true_eq] at this
          exact this.1
        · have z := hr.fits_iff (hg.trans gc)
          rw [hf] at z
          have := z.symm
          simp only [Bool.and_eq_true, decide_eq_true_eq] at this
          have := this.2
          omega
        · by_cases h : slash = true
          · right; exact eq.2 h
          · left; simpa using h
        · by_cases h : neg = true
          · right
            rw [h] at c2
            have hlt : x < 0 := by simpa using c2.symm
            exact ((signed_lt neg p).mp (hr.neg_iff.mp hlt)).2
          · left; simpa using h
      · intro ⟨_, gc, f1, f2, s1, s2⟩
        refine ⟨hq, ?_, ?_⟩
        · rw [hr.fits_iff (hg.trans gc), signed_abs]
          simp only [Bool.and_eq_true, decide_eq_true_eq]
          exact ⟨f1, by omega⟩
        · rw [numText_red hr (hg.trans gc), hb, signed_abs, Int.natAbs_natCast]
          have z1 : (if signed neg p < 0 then ([45] : Bytes) else []) = (if neg = true then [45] else []) := by
            by_cases h : neg = true
            · have hp : p ≠ 0 := by
                rcases s2 with z | z
                · rw [h] at z; cases z
                · exact z
              rw [if_pos ((signed_lt neg p).mpr ⟨h, hp⟩), if_pos h]
            · rw [if_neg h, if_neg fun z => h ((signed_lt neg p).mp z).1]
          have z2 : (if (q : Int) = 1 then ([] : Bytes) else 47 :: decimal q) = (if slash = true then 47 :: decimal q else []) := by
            by_cases h : slash = true
            · have hq1 : q ≠ 1 := by
                rcases s1 with z | z
                · rw [h] at z; cases z
                · exact z
              rw [if_pos h, if_neg (by omega)]
            · rw [if_neg h, if_pos (by have := h1 (by simpa using h); omega)]
          rw [z1, z2]
    by_cases h : numOk neg p q slash = true
    · rw [if_pos (key.mpr h), if_pos h, hxe]
    · rw [if_neg (fun z => h (key.mp z)), if_neg h]
/-- **A number's text read**: with the - taken off, parted at the first / -/
theorem readNum_is (b : Bytes) : readNum b = (match readNat (cutAt 47 (stripped b).2).1, (cutAt 47 (stripped b).2).2.map readNat with
    | none, _ => none
    | some p, none => if numOk (stripped b).1 p 1 false = true then some (Rat.divInt (signed (stripped b).1 p) 1) else none
    | some _, some none => none
    | some p, some (some q) => if numOk (stripped b).1 p q true = true then some (Rat.divInt (signed (stripped b).1 p) q) else none) := by
  have e0 : readNum b = ((readNat (cutAt 47 (stripped b).2).1).bind fun (p : Nat) => (match (cutAt 47 (stripped b).2).2 with
    | none => some 1
    | some d => readNat d).bind fun (q : Nat) =>
      let x : Rat := if q = 0 then 0 else (if (stripped b).1 = true then -(p : Rat) else (p : Rat)) / (q : Rat)
      if q ≠ 0 ∧ fits x = true ∧ numText x = b then some x else none) := rfl
  rw [e0]
  have hb := stripped_back b
  generalize hs : stripped b = s at hb ⊢
  obtain ⟨neg, t⟩ := s
  simp only at hb ⊢
  have hcut : ∀ z, cutAt 47 t = z → (∀ p, readNat z.1 = some p → z.2 = none → t = decimal p) ∧ (∀ p q d, readNat z.1 = some p → z.2 = some d → readNat d = some q → t = decimal p ++ 47 :: decimal q) := by
    intro z hz
    by_cases h : (47 : UInt8) ∈ t
    · obtain ⟨x, r, e, hx⟩ := List.eq_append_cons_of_mem h
      rw [e, cutAt_at 47 x r hx] at hz
      subst hz
      refine ⟨fun p _ hn => by simp at hn, fun p q d hp hd hq => ?_⟩
      have := (readNat_some hp).2.2
      simp only at this hd
      cases hd
      rw [e, this, (readNat_some hq).2.2]
    · rw [cutAt_none 47 t h] at hz
      subst hz
      refine ⟨fun p hp _ => (readNat_some hp).2.2, fun p q d _ hd => by simp at hd⟩
  generalize hz : cutAt 47 t = z
  obtain ⟨c1, c2⟩ := hcut z hz
  obtain ⟨za, zb⟩ := z
  simp only at c1 c2 ⊢
  cases hp : readNat za with
  | none => rfl
  | some p =>
    cases zb with
    | none =>
      show (if _ then _ else _) = _
      exact numbers_made (neg := neg) (p := p) (q := 1) (slash := false) (by rw [← hb, c1 p hp rfl]; simp) (fun _ => rfl)
    | some d =>
      cases hq : readNat d with
      | none =>
        show (match some (readNat d) with | _ => _) = _
        simp only [Option.bind_some, Option.map_some, hq]
        rfl
      | some q =>
        simp only [Option.bind_some, Option.map_some, hq]
        exact numbers_made (neg := neg) (p := p) (q := q) (slash := true) (by rw [← hb, c2 p q d hp rfl hq]; simp) (fun z => by cases z)
end SR
set_option Elab.async false
/-! # A pattern's lines, one behind another -/
namespace SR
open SeamNum SeamPoly SeamPattern SD

theorem readNum_fits {b : Bytes} {x : Rat} (h : readNum b = some x) : fits x = true := by
  rw [readNum_is] at h
  generalize (stripped b).1 = neg at h
  have key : ∀ p q s, (if numOk neg p q s = true then some (Rat.divInt (signed neg p) q) else none) = some x → fits x = true := by
    intro p q s hh
    by_cases k : numOk neg p q s = true
    · rw [if_pos k] at hh
      cases hh
      unfold numOk at k
      simp only [Bool.and_eq_true, Bool.or_eq_true, decide_eq_true_eq, Bool.not_eq_true'] at k
      obtain ⟨k1, k2, k3, k4, _⟩ := k
      have hr : Rep (Rat.divInt (signed neg p) q) (signed neg p) q := ⟨by omega, rfl⟩
      have hg : Int.gcd (signed neg p) (q : Int) = 1 := by
        show Nat.gcd (signed neg p).natAbs (q : Int).natAbs = _
        rw [signed_abs, Int.natAbs_natCast]
        exact k2
      rw [hr.fits_iff hg, signed_abs]
      simp only [Bool.and_eq_true, decide_eq_true_eq]
      exact ⟨k3, by omega⟩
    · rw [if_neg k] at hh
      cases hh
  split at h
  · cases h
  · exact key _ 1 false h
  · cases h
  · exact key _ _ _ h
theorem readPoint_fits {a b : Bytes} {p : Point} (h : readPoint a b = some p) : fitsP p = true := by
  unfold readPoint at h
  cases ha : readNum a with
  | none => rw [ha] at h; cases h
  | some x =>
    cases hb : readNum b with
    | none => rw [ha, hb] at h; cases h
    | some y =>
      rw [ha, hb] at h
      cases h
      unfold fitsP
      simp only [readNum_fits ha, readNum_fits hb, Bool.and_self]
/-- what a line that can be read brings -/
def lineFine : Line → Prop
  | .piece n g => isName n = true ∧ fitsP g = true
  | .corner p => fitsP p = true
  | _ => True
theorem map_some {α β : Type} {f : α → β} {x : Option α} {y : β} (h : x.map f = some y) : ∃ a, x = some a ∧ f a = y := by
  cases x with
  | none => cases h
  | some a => exact ⟨a, rfl, Option.some.inj h⟩
theorem readLine_fine {b : Bytes} {l : Line} (h : readLine b = some l) : lineFine l := by
  unfold readLine at h
  split at h
  · split at h
    · cases h; trivial
    · cases h
  · obtain ⟨p, e, rfl⟩ := map_some h
    exact readPoint_fits e
  · split at h
    · rename_i hc
      obtain ⟨p, e, rfl⟩ := map_some h
      exact ⟨hc.2, readPoint_fits e⟩
    · cases h
  · split at h
    · split at h
      · cases h; trivial
      · cases h
    · cases h
  · cases h
/-- one line more -/
theorem making_snoc (b : Bytes) : ∀ (l : List Bytes) (n : Nat) (m : Making), making n m (l ++ [b]) = (match making n m l with
    | .error e => .error e
    | .ok k => match (readLine b).bind k.next with
      | none => .error (n + l.length)
      | some j => .ok j)
  | [], n, m => by
    show making n m [b] = _
    rw [making]
    cases (readLine b).bind m.next with
    | none => rfl
    | some k => rfl
  | c :: r, n, m => by
    show making n m (c :: (r ++ [b])) = _
    rw [making, making]
    cases (readLine c).bind m.next with
    | none => rfl
    | some k =>
      simp only
      rw [making_snoc b r (n + 1) k]
      cases making (n + 1) k r with
      | error e => rfl
      | ok j =>
        simp only [List.length_cons]
        have : n + 1 + r.length = n + (r.length + 1) := by omega
        rw [this]
/-- a fault stays -/
theorem making_stop {e : Nat} (r : List Bytes) : ∀ (l : List Bytes) (n : Nat) (m : Making), making n m l = .error e → making n m (l ++ r) = .error e
  | [], n, m, h => by rw [making] at h; cases h
  | c :: l, n, m, h => by
    show making n m (c :: (l ++ r)) = _
    rw [making] at h ⊢
    cases hc : (readLine c).bind m.next with
    | none => rw [hc] at h; exact h
    | some k =>
      rw [hc] at h
      exact making_stop r l (n + 1) k h
theorem making_more (r : List Bytes) : ∀ (l : List Bytes) (n : Nat) (m k : Making), making n m l = .ok k → making n m (l ++ r) = making (n + l.length) k r
  | [], n, m, k, h => by rw [making] at h; cases h; rfl
  | c :: l, n, m, k, h => by
    show making n m (c :: (l ++ r)) = _
    rw [making] at h ⊢
    cases hc : (readLine c).bind m.next with
    | none => rw [hc] at h; cases h
    | some j =>
      rw [hc] at h
      have q := making_more r l (n + 1) j k h
      simp only
      rw [q, List.length_cons]
      have : n + 1 + l.length = n + (l.length + 1) := by omega
      rw [this]

theorem last_again {α : Type} : ∀ (l : List α) {x : α}, l.getLast? = some x → l.dropLast ++ [x] = l
  | [], x, h => by cases h
  | [y], x, h => by cases h; rfl
  | y :: z :: l, x, h => by
    rw [List.getLast?_cons_cons] at h
    show y :: ((z :: l).dropLast ++ [x]) = _
    rw [last_again (z :: l) h]

/-! ### what a row of lines may have made -/
def pieceFine (p : Piece) : Prop := isName p.name = true ∧ fitsP p.grain = true ∧ p.row.length ≤ 16 ∧ ∀ c ∈ p.row, fitsP c = true
structure Made (m : Making) : Prop where
  few : m.pieces.length ≤ 8
  fine : ∀ p ∈ m.pieces, pieceFine p
  full : ∀ p ∈ m.pieces.dropLast, 3 ≤ p.row.length
  done : m.seams ≠ [] ∨ m.ended = true → m.pieces ≠ [] ∧ ∀ p ∈ m.pieces, 3 ≤ p.row.length
theorem Made.empty : Made ⟨[], [], false⟩ := ⟨by decide, by simp, by simp, by simp⟩
theorem enough_all {m : Making} (h : Made m) (e : m.enough = true) : m.pieces ≠ [] ∧ ∀ p ∈ m.pieces, 3 ≤ p.row.length := by
  unfold Making.enough at e
  cases hq : m.pieces.getLast? with
  | none => rw [hq] at e; cases e
  | some x =>
    rw [hq] at e
    have e3 : 3 ≤ x.row.length := by simpa using e
    have hs := last_again _ hq
    refine ⟨fun z => by (rw [z] at hq; cases hq), fun p hp => ?_⟩
    rw [← hs] at hp
    rcases List.mem_append.mp hp with z | z
    · exact h.full p z
    · rw [List.mem_singleton.mp z]
      exact e3
theorem Made.next {m k : Making} {l : Line} (h : Made m) (hl : lineFine l) (e : m.next l = some k) : Made k := by
  unfold Making.next at e
  by_cases he : m.ended = true
  · rw [if_pos he] at e; cases e
  · rw [if_neg he] at e
    cases l with
    | piece n g =>
      simp only at e
      split at e
      · rename_i hc
        cases e
        obtain ⟨c1, c2, c3⟩ := hc
        have few : m.pieces.length < 8 := c3
        refine ⟨?_, ?_, ?_, ?_⟩
        · simp only [List.length_append, List.length_singleton]; omega
        · intro p hp
          rcases List.mem_append.mp hp with z | z
          · exact h.fine p z
          · rw [List.mem_singleton.mp z]
            exact ⟨hl.1, hl.2, Nat.zero_le _, by simp⟩
        · intro p hp
          simp only [List.dropLast_concat] at hp
          rcases c1 with z | z
          · rw [List.isEmpty_iff.mp z] at hp; cases hp
          · exact (enough_all h z).2 p hp
        · intro z
          rcases z with z | z
          · exact absurd (List.isEmpty_iff.mp c2) z
          · exact absurd z he
      · cases e
    | corner q =>
      simp only at e
      cases hg : m.pieces.getLast? with
      | none => rw [hg] at e; cases e
      | some x =>
        rw [hg] at e
        simp only at e
        split at e
        · rename_i hc
          cases e
          have hs := last_again _ hg
          have hx : x ∈ m.pieces := List.mem_of_getLast? hg
          have len : x.row.length < 16 := hc.2
          refine ⟨?_, ?_, ?_, ?_⟩
          · have := h.few
            rw [← hs] at this
            simpa using this
          · intro p hp
            rcases List.mem_append.mp hp with z | z
            · exact h.fine p (List.dropLast_sublist _ |>.subset z)
            · rw [List.mem_singleton.mp z]
              obtain ⟨f1, f2, f3, f4⟩ := h.fine x hx
              refine ⟨f1, f2, ?_, ?_⟩
              · simp only [List.length_append, List.length_singleton]; omega
              · intro c hcc
                rcases List.mem_append.mp hcc with y | y
                · exact f4 c y
                · rw [List.mem_singleton.mp y]; exact hl
          · intro p hp
            simp only [List.dropLast_concat] at hp
            exact h.full p hp
          · intro z
            rcases z with z | z
            · exact absurd (List.isEmpty_iff.mp hc.1) z
            · exact absurd z he
        · cases e
    | seam s =>
      simp only at e
      split at e
      · rename_i hc
        cases e
        exact ⟨h.few, h.fine, h.full, fun _ => enough_all (m := m) h hc⟩
      · cases e
    | end_ =>
      simp only at e
      split at e
      · rename_i hc
        cases e
        exact ⟨h.few, h.fine, h.full, fun _ => enough_all (m := m) h hc⟩
      · cases e
theorem Made.all : ∀ (l : List Bytes) {n : Nat} {m k : Making}, Made m → making n m l = .ok k → Made k
  | [], n, m, k, h, e => by rw [making] at e; cases e; exact h
  | c :: l, n, m, k, h, e => by
    rw [making] at e
    cases hc : readLine c with
    | none => rw [hc] at e; cases e
    | some z =>
      rw [hc] at e
      cases hj : m.next z with
      | none =>
        have : (some z).bind m.next = none := hj
        rw [this] at e; cases e
      | some j =>
        have : (some z).bind m.next = some j := hj
        rw [this] at e
        exact Made.all l (h.next (readLine_fine hc) hj) e
/-- what is left to look at behind the last line -/
def rest (P : Pattern) : Bool := P.pieces.all (fun p => simple p.row && (decide (0 < area p.row) && p.grain != origin)) && (noneTwice P.names && (P.seams.all P.maySew && noneTwice P.sewn))
theorem Made.right {m : Making} (h : Made m) (e : m.ended = true) : (⟨m.pieces, m.seams⟩ : Pattern).right = rest ⟨m.pieces, m.seams⟩ := by
  obtain ⟨d1, d2⟩ := h.done (Or.inr e)
  have l1 : 1 ≤ m.pieces.length := by
    cases hq : m.pieces with
    | nil => exact absurd hq d1
    | cons _ _ => simp
  have l2 : m.pieces.length ≤ PIECES := h.few
  unfold Pattern.right rest
  simp only [l1, l2, decide_true, Bool.true_and]
  congr 1
  apply Bool.eq_iff_iff.mpr
  rw [List.all_eq_true, List.all_eq_true]
  constructor
  · intro z p hp
    have q := z p hp
    unfold Piece.right rowRight at q
    simp only [Bool.and_eq_true] at q ⊢
    exact ⟨q.2.1.2.2.2.1, q.2.1.2.2.2.2, q.2.2.2⟩
  · intro z p hp
    have q := z p hp
    obtain ⟨f1, f2, f3, f4⟩ := h.fine p hp
    unfold Piece.right rowRight
    simp only [Bool.and_eq_true] at q ⊢
    refine ⟨f1, ⟨by simpa using d2 p hp, decide_eq_true f3, List.all_eq_true.mpr f4, q.1, q.2.1⟩, f2, q.2.2⟩
/-- **A pattern's text read**, by what is left to look at -/
theorem readPattern_is (b : Bytes) : readPattern b = (match making 0 ⟨[], [], false⟩ (linesOf b).1 with
    | .error n => .error n
    | .ok m => if m.ended = true ∧ (linesOf b).2 = [] ∧ rest ⟨m.pieces, m.seams⟩ = true then .ok ⟨m.pieces, m.seams⟩ else .error (linesOf b).1.length) := by
  unfold readPattern
  simp only
  cases hm : making 0 ⟨[], [], false⟩ (linesOf b).1 with
  | error e => rfl
  | ok m =>
    simp only
    by_cases e : m.ended = true
    · rw [(Made.all _ Made.empty hm).right e]
    · rw [if_neg fun z => e z.1, if_neg fun z => e z.1]
/-- what was read is right -/
theorem readPattern_right {b : Bytes} {P : Pattern} (h : readPattern b = .ok P) : P.right = true := by
  unfold readPattern at h
  simp only at h
  split at h
  · cases h
  · split at h
    · rename_i hc
      cases h
      exact hc.2.2
    · cases h
end SR
set_option Elab.async false
/-! # Stretches, other ways round -/
namespace SR
open SeamNum SeamPoly

theorem three (x y : Rat) : x < y ∨ x = y ∨ y < x := by grind
theorem mul_lt {x y : Rat} : x * y < 0 ↔ (x < 0 ∧ 0 < y) ∨ (0 < x ∧ y < 0) := by
  constructor
  · intro h
    rcases three x 0 with hx | hx | hx
    · rcases three y 0 with hy | hy | hy
      · have := Rat.mul_pos (a := -x) (b := -y) (by grind) (by grind)
        grind
      · rw [hy, Rat.mul_zero] at h; exact absurd h (by decide)
      · exact Or.inl ⟨hx, hy⟩
    · rw [hx, Rat.zero_mul] at h; exact absurd h (by decide)
    · rcases three y 0 with hy | hy | hy
      · exact Or.inr ⟨hx, hy⟩
      · rw [hy, Rat.mul_zero] at h; exact absurd h (by decide)
      · have := Rat.mul_pos hx hy
        grind
  · intro h
    rcases h with ⟨h1, h2⟩ | ⟨h1, h2⟩
    · have := Rat.mul_pos (a := -x) (b := y) (by grind) h2
      grind
    · have := Rat.mul_pos (a := x) (b := -y) h1 (by grind)
      grind
theorem sq_nonneg (x : Rat) : 0 ≤ x * x := by
  rcases Rat.le_total (a := 0) (b := x) with h | h
  · exact Rat.mul_nonneg h h
  · have := Rat.mul_nonneg (a := -x) (b := -x) (by grind) (by grind)
    grind
theorem sq_zero {x : Rat} (h : x * x = 0) : x = 0 := by
  rcases Rat.mul_eq_zero.mp h with z | z <;> exact z
theorem sums_zero {x y : Rat} (h : x * x + y * y = 0) : x = 0 ∧ y = 0 := by
  have h1 := sq_nonneg x
  have h2 := sq_nonneg y
  exact ⟨sq_zero (by grind), sq_zero (by grind)⟩
theorem sums_le {x y : Rat} (h : x * x + y * y ≤ 0) : x = 0 ∧ y = 0 := by
  have h1 := sq_nonneg x
  have h2 := sq_nonneg y
  exact ⟨sq_zero (by grind), sq_zero (by grind)⟩
theorem square_zero {a b : Point} : square (less b a) = 0 ↔ a = b := by
  constructor
  · intro h
    obtain ⟨h1, h2⟩ := sums_zero (x := b.1 - a.1) (y := b.2 - a.2) h
    exact Prod.ext (by grind) (by grind)
  · intro h
    subst h
    unfold square dot less
    grind
/-- on a stretch, from the point's own place -/
theorem on_dot (a b p : Point) : on a b p = (side a b p == 0 && decide (dot (less a p) (less b p) ≤ 0)) := by
  apply Bool.eq_iff_iff.mpr
  unfold on
  by_cases h : a = b
  · subst h
    rw [if_pos rfl, beq_iff_eq]
    simp only [Bool.and_eq_true, beq_iff_eq, decide_eq_true_eq]
    constructor
    · intro z
      subst z
      unfold side cross dot less
      constructor <;> grind
    · intro ⟨_, z⟩
      obtain ⟨z1, z2⟩ := sums_le (x := a.1 - p.1) (y := a.2 - p.2) z
      exact Prod.ext (by grind) (by grind)
  · rw [if_neg h]
    simp only [Bool.and_eq_true, beq_iff_eq, decide_eq_true_eq]
    have hs : square (less b a) ≠ 0 := fun z => h (square_zero.mp z)
    obtain ⟨ax, ay⟩ := a
    obtain ⟨bx, by_⟩ := b
    obtain ⟨px, py⟩ := p
    simp only [side, cross, dot, less, square] at hs ⊢
    -- u: the way, v: to the point; dot (a - p) (b - p) = |v|² - v·u; with u×v = 0: |v|²|u|² = (v·u)²
    generalize hu : bx - ax = u at *
    generalize hw : by_ - ay = w at *
    generalize hx : px - ax = x at *
    generalize hy : py - ay = y at *
    have e1 : ax - px = -x := by grind
    have e2 : ay - py = -y := by grind
    have e3 : bx - px = u - x := by grind
    have e4 : by_ - py = w - y := by grind
    rw [e1, e2, e3, e4]
    have n2 := sq_nonneg u
    have n3 := sq_nonneg w
    have pos : 0 < u * u + w * w := by grind
    constructor
    · intro ⟨hc, d1, d2⟩
      refine ⟨hc, ?_⟩
      have key : (x * u + y * w) * (u * u + w * w - (x * u + y * w)) = (u * u + w * w) * -(-x * (u - x) + -y * (w - y)) := by grind
      have nn := Rat.mul_nonneg d1 (by grind : 0 ≤ u * u + w * w - (x * u + y * w))
      rw [key] at nn
      rcases Rat.le_total (a := -x * (u - x) + -y * (w - y)) (b := 0) with z | z
      · exact z
      · rcases three (-x * (u - x) + -y * (w - y)) 0 with q | q | q
        · exact Rat.le_of_lt q
        · rw [q]; exact Rat.le_refl
        · have := Rat.mul_pos pos q
          grind
    · intro ⟨hc, hd⟩
      have key : (x * u + y * w) * (u * u + w * w - (x * u + y * w)) = (u * u + w * w) * -(-x * (u - x) + -y * (w - y)) := by grind
      have nn := Rat.mul_nonneg (Rat.le_of_lt pos) (by grind : 0 ≤ -(-x * (u - x) + -y * (w - y)))
      rw [← key] at nn
      refine ⟨hc, ?_, ?_⟩
      · rcases Rat.le_total (a := 0) (b := x * u + y * w) with z | z
        · exact z
        · rcases three (x * u + y * w) 0 with q | q | q
          · have := Rat.mul_pos (a := -(x * u + y * w)) (b := u * u + w * w - (x * u + y * w)) (by grind) (by grind)
            grind
          · rw [q]; exact Rat.le_refl
          · exact Rat.le_of_lt q
      · rcases Rat.le_total (a := x * u + y * w) (b := u * u + w * w) with z | z
        · exact z
        · rcases three (u * u + w * w - (x * u + y * w)) 0 with q | q | q
          · have := Rat.mul_pos (a := x * u + y * w) (b := -(u * u + w * w - (x * u + y * w))) (by grind) (by grind)
            grind
          · grind
          · grind
theorem side_swap (a b p : Point) : side b a p = -side a b p := by
  unfold side cross less
  grind
theorem on_swap (a b p : Point) : on a b p = on b a p := by
  rw [on_dot, on_dot, side_swap a b p]
  have e : dot (less b p) (less a p) = dot (less a p) (less b p) := by unfold dot less; grind
  rw [e]
  congr 1
  apply Bool.eq_iff_iff.mpr
  simp only [beq_iff_eq]
  grind
theorem meet_swap (a b c d : Point) : meet a b c d = meet c d a b := by
  unfold meet
  cases on a b c <;> cases on a b d <;> cases on c d a <;> cases on c d b <;> simp [Bool.and_comm]
theorem meet_turn (a b c d : Point) : meet a b c d = meet b a c d := by
  unfold meet
  rw [on_swap b a c, on_swap b a d, side_swap a b c, side_swap a b d]
  have e1 : -side a b c * -side a b d = side a b c * side a b d := by grind
  have e2 : side c d b * side c d a = side c d a * side c d b := by grind
  rw [e1, e2]
  cases on a b c <;> cases on a b d <;> cases on c d a <;> cases on c d b <;> rfl
theorem parted_swap (n i j : Nat) : parted n i j = parted n j i := by
  unfold parted
  have : (i != j) = (j != i) := by
    apply Bool.eq_iff_iff.mpr
    simp only [bne_iff_ne]
    exact ⟨fun h z => h z.symm, fun h z => h z.symm⟩
  rw [this, Bool.and_comm ((i + 1) % n != j)]
/-- **in the stretch's frame**: lower and upper x, lower and upper y -/
theorem box_le {x u : Rat} (h : 0 ≤ x * (u - x)) : (0 ≤ x ∧ x ≤ u) ∨ (u ≤ x ∧ x ≤ 0) := by
  rcases Rat.le_total (a := 0) (b := x) with h1 | h1
  · rcases Rat.le_total (a := x) (b := u) with h2 | h2
    · exact Or.inl ⟨h1, h2⟩
    · rcases three 0 x with q | q | q
      · by_cases z : x = u
        · left; constructor <;> grind
        · have := Rat.mul_pos (a := x) (b := x - u) q (by grind)
          grind
      · right; constructor <;> grind
      · grind
  · rcases Rat.le_total (a := u) (b := x) with h2 | h2
    · exact Or.inr ⟨h2, h1⟩
    · rcases three x 0 with q | q | q
      · by_cases z : x = u
        · right; constructor <;> grind
        · have := Rat.mul_pos (a := -x) (b := u - x) (by grind) (by grind)
          grind
      · left; constructor <;> grind
      · grind
theorem box_ge {x u : Rat} (h : (0 ≤ x ∧ x ≤ u) ∨ (u ≤ x ∧ x ≤ 0)) : 0 ≤ x * (u - x) := by
  rcases h with ⟨h1, h2⟩ | ⟨h1, h2⟩
  · exact Rat.mul_nonneg h1 (by grind)
  · have := Rat.mul_nonneg (a := -x) (b := x - u) (by grind) (by grind)
    grind
/-- between two, either way round -/
def amid (a b x : Rat) : Prop := (a ≤ x ∧ x ≤ b) ∨ (b ≤ x ∧ x ≤ a)
theorem amid_iff (a b x : Rat) : amid a b x ↔ (a - x) * (b - x) ≤ 0 := by
  unfold amid
  constructor
  · intro h
    have := box_ge (x := x - a) (u := b - a) (by grind)
    grind
  · intro h
    have := box_le (x := x - a) (u := b - a) (by grind)
    rcases this with ⟨h1, h2⟩ | ⟨h1, h2⟩
    · left; constructor <;> grind
    · right; constructor <;> grind
/-- **on a stretch: on its line and in its box** -/
theorem on_box (a b p : Point) : on a b p = true ↔ side a b p = 0 ∧ amid a.1 b.1 p.1 ∧ amid a.2 b.2 p.2 := by
  rw [on_dot]
  simp only [Bool.and_eq_true, beq_iff_eq, decide_eq_true_eq, amid_iff]
  obtain ⟨ax, ay⟩ := a
  obtain ⟨bx, by_⟩ := b
  obtain ⟨px, py⟩ := p
  simp only [side, cross, dot, less]
  constructor
  · intro ⟨hc, hd⟩
    refine ⟨hc, ?_⟩
    generalize hu : ax - px = u at *
    generalize hw : ay - py = w at *
    generalize hx : bx - px = x at *
    generalize hy : by_ - py = y at *
    have hc' : u * y = w * x := by grind
    -- (u x)(w y) = (u y)(w x) = (u y)², so u x and w y are of one sign
    have e : (u * x) * (w * y) = (u * y) * (u * y) := by grind
    have nn := sq_nonneg (u * y)
    constructor
    · rcases three (u * x) 0 with q | q | q
      · exact Rat.le_of_lt q
      · rw [q]; exact Rat.le_refl
      · have := mul_lt.mpr (Or.inr ⟨q, (by grind : w * y < 0)⟩)
        grind
    · rcases three (w * y) 0 with q | q | q
      · exact Rat.le_of_lt q
      · rw [q]; exact Rat.le_refl
      · have := mul_lt.mpr (Or.inl ⟨(by grind : u * x < 0), q⟩)
        grind
  · intro ⟨hc, h1, h2⟩
    exact ⟨hc, by grind⟩
/-- every pair once is enough -/
theorem pairs_once {n : Nat} {P : Nat → Nat → Prop} (sym : ∀ i j, P i j → P j i) (irr : ∀ i, P i i) : (∀ i, i < n → ∀ j, j < n → P i j) ↔ (∀ j, j < n → ∀ i, i < j → P i j) := by
  constructor
  · intro h j hj i hi
    exact h i (Nat.lt_trans hi hj) j hj
  · intro h i hi j hj
    rcases Nat.lt_trichotomy i j with z | z | z
    · exact h j hj i z
    · subst z; exact irr i
    · exact sym j i (h i hi j z)
theorem simple_once (r : Row) : simple r = true ↔ (∀ i, i < r.length → goesBack (at_ r i) (at_ r (i + 1)) (at_ r (i + 2)) = false ∧ at_ r i ≠ at_ r (i + 1)) ∧ ∀ j, j < r.length → ∀ i, i < j → parted r.length i j = true → meet (at_ r i) (at_ r (i + 1)) (at_ r j) (at_ r (j + 1)) = false := by
  have q := pairs_once (n := r.length) (P := fun i j => parted r.length i j = true → meet (at_ r i) (at_ r (i + 1)) (at_ r j) (at_ r (j + 1)) = false) (fun i j h k => by rw [meet_swap]; exact h (by rw [parted_swap]; exact k)) (fun i k => by unfold parted at k; simp at k)
  rw [← q]
  unfold simple
  simp only [List.all_eq_true, List.mem_range, Bool.and_eq_true, Bool.not_eq_true', Bool.or_eq_true, bne_iff_ne]
  constructor
  · intro h
    refine ⟨fun i hi => (h i hi).1, fun i hi j hj k => ?_⟩
    rcases (h i hi).2 j hj with z | z
    · rw [k] at z; cases z
    · exact z
  · intro ⟨h1, h2⟩ i hi
    refine ⟨h1 i hi, fun j hj => ?_⟩
    cases k : parted r.length i j with
    | false => exact Or.inl rfl
    | true => exact Or.inr (h2 i hi j hj k)
end SR
set_option Elab.async false
/-! # What leads to what, round by round; sorted rows are one -/
namespace SR
open SeamNum SeamPoly SeamPattern

/-! ### rows without twice -/
theorem erase_len {α : Type} [BEq α] [LawfulBEq α] {a : α} : ∀ {l : List α}, a ∈ l → (l.erase a).length + 1 = l.length := by
  intro l h
  have := List.length_erase_of_mem h
  have : 0 < l.length := List.length_pos_of_mem h
  omega
theorem nodup_len {α : Type} [BEq α] [LawfulBEq α] : ∀ (l m : List α), l.Nodup → (∀ x ∈ l, x ∈ m) → l.length ≤ m.length
  | [], m, _, _ => Nat.zero_le _
  | a :: l, m, hn, hs => by
    have ha := hs a (List.mem_cons_self ..)
    obtain ⟨n1, n2⟩ := List.nodup_cons.mp hn
    have q := nodup_len l (m.erase a) n2 fun x hx => by
      have hxm := hs x (List.mem_cons_of_mem _ hx)
      have : x ≠ a := fun z => n1 (z ▸ hx)
      exact (List.mem_erase_of_ne this).mpr hxm
    have := erase_len ha
    simp only [List.length_cons]
    omega

set_option linter.unusedSectionVars false
section Rounds
variable {α : Type} [BEq α] [LawfulBEq α] (T : α → List α)
/-- what comes anew -/
def fresh (seen : List α) (l : List α) : List α := l.foldl (fun (s : List α) (x : α) => if seen.contains x || s.contains x then s else s ++ [x]) []
theorem fresh_fold (seen : List α) : ∀ (l s : List α), s.Nodup → (∀ x ∈ s, x ∉ seen) →
    (l.foldl (fun (s : List α) (x : α) => if seen.contains x || s.contains x then s else s ++ [x]) s).Nodup ∧
    ∀ y, y ∈ l.foldl (fun (s : List α) (x : α) => if seen.contains x || s.contains x then s else s ++ [x]) s ↔ y ∈ s ∨ (y ∈ l ∧ y ∉ seen)
  | [], s, hn, hs => ⟨hn, fun y => by simp⟩
  | a :: l, s, hn, hs => by
    rw [List.foldl_cons]
    by_cases c : (seen.contains a || s.contains a) = true
    · rw [if_pos c]
      obtain ⟨q1, q2⟩ := fresh_fold seen l s hn hs
      refine ⟨q1, fun y => ?_⟩
      rw [q2 y]
      simp only [Bool.or_eq_true, List.contains_iff_mem] at c
      constructor
      · rintro (z | ⟨z1, z2⟩)
        · exact Or.inl z
        · exact Or.inr ⟨List.mem_cons_of_mem _ z1, z2⟩
      · rintro (z | ⟨z1, z2⟩)
        · exact Or.inl z
        · rcases List.mem_cons.mp z1 with e | e
          · subst e
            rcases c with c | c
            · exact absurd c z2
            · exact Or.inl c
          · exact Or.inr ⟨e, z2⟩
    · rw [if_neg c]
      have c' : a ∉ seen ∧ a ∉ s := by
        simp only [Bool.or_eq_true, List.contains_iff_mem, not_or] at c
        exact c
      obtain ⟨q1, q2⟩ := fresh_fold seen l (s ++ [a]) (by
        rw [List.nodup_append]
        refine ⟨hn, by simp, fun x hx y hy z => ?_⟩
        rw [List.mem_singleton.mp hy] at z
        exact c'.2 (z ▸ hx)) (fun x hx => by
        rcases List.mem_append.mp hx with z | z
        · exact hs x z
        · rw [List.mem_singleton.mp z]; exact c'.1)
      refine ⟨q1, fun y => ?_⟩
      rw [q2 y]
      simp only [List.mem_append, List.mem_cons, List.not_mem_nil, or_false]
      constructor
      · rintro ((z | z) | ⟨z1, z2⟩)
        · exact Or.inl z
        · subst z; exact Or.inr ⟨Or.inl rfl, c'.1⟩
        · exact Or.inr ⟨Or.inr z1, z2⟩
      · rintro (z | ⟨z1 | z1, z2⟩)
        · exact Or.inl (Or.inl z)
        · exact Or.inl (Or.inr z1)
        · exact Or.inr ⟨z1, z2⟩
theorem fresh_nodup (seen l : List α) : (fresh seen l).Nodup := (fresh_fold seen l [] List.nodup_nil (by simp)).1
theorem fresh_mem (seen l : List α) (y : α) : y ∈ fresh seen l ↔ y ∈ l ∧ y ∉ seen := by
  have q := (fresh_fold seen l [] List.nodup_nil (by simp)).2 y
  simp only [List.not_mem_nil, false_or] at q
  exact q
def rounds : Nat → List α → List α → List α
  | 0, _, seen => seen
  | f + 1, l, seen => if (fresh seen (l.flatMap T)).isEmpty = true then seen else rounds f (fresh seen (l.flatMap T)) (seen ++ fresh seen (l.flatMap T))
/-- what is led to -/
inductive Led (x : α) : α → Prop where
  | self : Led x x
  | step {y z : α} : Led x y → z ∈ T y → Led x z
/-- **All that is led to**: each once, and no more leads out -/
structure AllLed (x : α) (l : List α) : Prop where
  once : l.Nodup
  self : x ∈ l
  led : ∀ y ∈ l, Led T x y
  closed : ∀ y ∈ l, ∀ z ∈ T y, z ∈ l
theorem AllLed.mem_iff {x : α} {l : List α} (h : AllLed T x l) (y : α) : y ∈ l ↔ Led T x y := by
  constructor
  · exact h.led y
  · intro k
    induction k with
    | self => exact h.self
    | step _ hz ih => exact h.closed _ ih _ hz
theorem AllLed.perm {x : α} {l m : List α} (h : AllLed T x l) (k : AllLed T x m) : l.Perm m := by
  rw [List.perm_ext_iff_of_nodup h.once k.once]
  intro a
  rw [h.mem_iff, k.mem_iff]
/-- on the way: all but the last ones' own -/
structure Way (x : α) (l seen : List α) : Prop where
  once : seen.Nodup
  self : x ∈ seen
  sub : ∀ y ∈ l, y ∈ seen
  led : ∀ y ∈ seen, Led T x y
  closed : ∀ y ∈ seen, y ∉ l → ∀ z ∈ T y, z ∈ seen
theorem rounds_all (x : α) (L : List α) (hL : ∀ y, Led T x y → y ∈ L) : ∀ (f : Nat) (l seen : List α), Way T x l seen → L.length < seen.length + f → AllLed T x (rounds T f l seen)
  | 0, l, seen, h, hl => by
    have := nodup_len seen L h.once fun y hy => hL y (h.led y hy)
    omega
  | f + 1, l, seen, h, hl => by
    rw [rounds]
    by_cases c : (fresh seen (l.flatMap T)).isEmpty = true
    · rw [if_pos c]
      refine ⟨h.once, h.self, h.led, fun y hy z hz => ?_⟩
      by_cases hyl : y ∈ l
      · by_cases hzs : z ∈ seen
        · exact hzs
        · have : z ∈ fresh seen (l.flatMap T) := (fresh_mem seen _ z).mpr ⟨List.mem_flatMap.mpr ⟨y, hyl, hz⟩, hzs⟩
          rw [List.isEmpty_iff.mp c] at this
          cases this
      · exact h.closed y hy hyl z hz
    · rw [if_neg c]
      have hne : 0 < (fresh seen (l.flatMap T)).length := by
        apply List.length_pos_iff.mpr
        intro z
        rw [z] at c
        exact c rfl
      refine rounds_all x L hL f _ _ ⟨?_, ?_, ?_, ?_, ?_⟩ (by rw [List.length_append]; omega)
      · rw [List.nodup_append]
        refine ⟨h.once, fresh_nodup _ _, fun a ha b hb z => ?_⟩
        subst z
        exact ((fresh_mem seen _ a).mp hb).2 ha
      · exact List.mem_append_left _ h.self
      · intro y hy
        exact List.mem_append_right _ hy
      · intro y hy
        rcases List.mem_append.mp hy with z | z
        · exact h.led y z
        · obtain ⟨z1, _⟩ := (fresh_mem seen _ y).mp z
          obtain ⟨u, hu, hz⟩ := List.mem_flatMap.mp z1
          exact Led.step (h.led u (h.sub u hu)) hz
      · intro y hy hyn z hz
        rcases List.mem_append.mp hy with q | q
        · by_cases hyl : y ∈ l
          · by_cases hzs : z ∈ seen
            · exact List.mem_append_left _ hzs
            · exact List.mem_append_right _ ((fresh_mem seen _ z).mpr ⟨List.mem_flatMap.mpr ⟨y, hyl, hz⟩, hzs⟩)
          · exact List.mem_append_left _ (h.closed y q hyl z hz)
        · exact absurd q hyn
theorem Way.start (x : α) : Way T x [x] [x] := by
  refine ⟨by simp, by simp, by simp, ?_, ?_⟩
  · intro y hy
    rw [List.mem_singleton.mp hy]
    exact Led.self
  · intro y hy hn
    exact absurd hy hn
end Rounds

/-! ### a row in order is the only one -/
theorem sorted_one {α : Type} (le : α → α → Bool) (anti : ∀ a b, le a b = true → le b a = true → a = b) {l m : List α} (p : l.Perm m) (h : l.Pairwise fun a b => le a b = true) (k : m.Pairwise fun a b => le a b = true) : l = m :=
  p.eq_of_pairwise (fun a b _ _ h1 h2 => anti a b h1 h2) h k

/-! ### places in order -/
theorem sooner_iff (x y : Place) : sooner x y = true ↔ x.1 < y.1 ∨ (x.1 = y.1 ∧ (x.2.1 < y.2.1 ∨ (x.2.1 = y.2.1 ∧ x.2.2 < y.2.2))) := by
  unfold sooner
  simp only [Bool.or_eq_true, Bool.and_eq_true, decide_eq_true_eq, beq_iff_eq]
def noLater (a b : Place) : Bool := !sooner b a
theorem noLater_iff (a b : Place) : noLater a b = true ↔ ¬ sooner b a = true := by
  unfold noLater
  simp
theorem noLater_anti (a b : Place) (h : noLater a b = true) (k : noLater b a = true) : a = b := by
  rw [noLater_iff, sooner_iff] at h k
  obtain ⟨a1, a2, a3⟩ := a
  obtain ⟨b1, b2, b3⟩ := b
  simp only at h k
  have e1 : a1 = b1 := by omega
  subst e1
  have e2 : a2 = b2 := by grind
  subst e2
  have e3 : a3 = b3 := by grind
  subst e3
  rfl
theorem noLater_total (a b : Place) : (noLater a b || noLater b a) = true := by
  rw [Bool.or_eq_true, noLater_iff, noLater_iff, sooner_iff, sooner_iff]
  grind
theorem noLater_trans (a b c : Place) (h : noLater a b = true) (k : noLater b c = true) : noLater a c = true := by
  rw [noLater_iff, sooner_iff] at h k ⊢
  grind
/-- **Put in order**: any row in order of the same places -/
theorem order_is {l m : List Place} (p : l.Perm m) (k : m.Pairwise fun a b => noLater a b = true) : (l.mergeSort fun (a b : Place) => !sooner b a) = m := by
  have s := List.pairwise_mergeSort (le := noLater) noLater_trans noLater_total l
  exact sorted_one noLater noLater_anti ((List.mergeSort_perm l _).trans p) s k
theorem closure_rounds (P : Pattern) : ∀ (f : Nat) (l seen : List Place), P.closure f l seen = rounds P.touching f l seen
  | 0, l, seen => rfl
  | f + 1, l, seen => by
    unfold Pattern.closure rounds
    simp only
    have e : (l.flatMap P.touching).foldl (fun (s : List Place) (x : Place) => if seen.contains x || s.contains x then s else s ++ [x]) [] = fresh seen (l.flatMap P.touching) := rfl
    rw [e, closure_rounds P f]
end SR
set_option Elab.async false
/-! # Points that two stretches have in common -/
namespace SR
open SeamNum SeamPoly

theorem square_pos {a b : Point} (h : a ≠ b) : 0 < square (less b a) := by
  have h1 : square (less b a) ≠ 0 := fun z => h (square_zero.mp z)
  have h2 : 0 ≤ square (less b a) := by
    unfold square dot
    have := sq_nonneg (less b a).1
    have := sq_nonneg (less b a).2
    grind
  grind
theorem cancel {k x y : Rat} (hk : 0 < k) (h : k * x = k * y) : x = y := by
  have : k ≠ 0 := by grind
  grind
theorem cancel_le {k x y : Rat} (hk : 0 < k) (h : k * x ≤ k * y) : x ≤ y := by
  rcases three x y with z | z | z
  · exact Rat.le_of_lt z
  · rw [z]; exact Rat.le_refl
  · have := Rat.mul_pos hk (by grind : 0 < x - y)
    grind
/-- on a stretch: some part of the way -/
theorem on_part {a b p : Point} (h : a ≠ b) : on a b p = true ↔ ∃ t : Rat, 0 ≤ t ∧ t ≤ 1 ∧ p = part a b t := by
  have pos := square_pos h
  unfold on
  rw [if_neg h]
  simp only [Bool.and_eq_true, beq_iff_eq, decide_eq_true_eq]
  constructor
  · intro ⟨hs, h1, h2⟩
    refine ⟨dot (less p a) (less b a) / square (less b a), ?_, ?_, ?_⟩
    · generalize square (less b a) = k at *
      generalize dot (less p a) (less b a) = m at *
      apply cancel_le pos
      have : k * (m / k) = m := by grind
      rw [this, Rat.mul_zero]
      exact h1
    · generalize square (less b a) = k at *
      generalize dot (less p a) (less b a) = m at *
      apply cancel_le pos
      have : k * (m / k) = m := by grind
      rw [this, Rat.mul_one]
      exact h2
    · have hk : square (less b a) ≠ 0 := by grind
      apply Prod.ext
      · apply cancel pos
        unfold part plus times square dot less at *
        unfold side cross less at hs
        simp only at *
        grind
      · apply cancel pos
        unfold part plus times square dot less at *
        unfold side cross less at hs
        simp only at *
        grind
  · intro ⟨t, h1, h2, h3⟩
    subst h3
    refine ⟨?_, ?_, ?_⟩
    · unfold side cross part plus times less
      grind
    · have e : dot (less (part a b t) a) (less b a) = t * square (less b a) := by
        unfold square dot part plus times less
        grind
      rw [e]
      exact Rat.mul_nonneg h1 (Rat.le_of_lt pos)
    · have e : dot (less (part a b t) a) (less b a) = t * square (less b a) := by
        unfold square dot part plus times less
        grind
      rw [e]
      have := Rat.mul_nonneg (a := 1 - t) (b := square (less b a)) (by grind) (Rat.le_of_lt pos)
      grind
theorem part_zero (a b : Point) : part a b 0 = a := by
  unfold part plus times less
  apply Prod.ext <;> grind
theorem part_one (a b : Point) : part a b 1 = b := by
  unfold part plus times less
  apply Prod.ext <;> grind
/-- on one line: the place along it -/
theorem along {a b p : Point} (h : a ≠ b) (k : side a b p = 0) : ∃ t : Rat, p = part a b t := by
  have pos := square_pos h
  have hk : square (less b a) ≠ 0 := by grind
  refine ⟨dot (less p a) (less b a) / square (less b a), ?_⟩
  apply Prod.ext
  · apply cancel pos
    unfold part plus times square dot less at *
    unfold side cross less at k
    simp only at *
    grind
  · apply cancel pos
    unfold part plus times square dot less at *
    unfold side cross less at k
    simp only at *
    grind
/-- on one line -/
theorem meet_line {a b c d x : Point} (h : a ≠ b) (hx : on a b x = true) (hy : on c d x = true) (hcd : c ≠ d) (s1 : side a b c = 0) (s2 : side a b d = 0) : meet a b c d = true := by
  obtain ⟨c', ec⟩ := along h s1
  obtain ⟨d', ed⟩ := along h s2
  obtain ⟨t, t0, t1, et⟩ := (on_part h).mp hx
  obtain ⟨u, u0, u1, eu⟩ := (on_part hcd).mp hy
  -- t = c' + u (d' - c')
  have ht : t = c' + u * (d' - c') := by
    have e1 : part a b t = part c d u := by rw [← et, eu]
    have pos := square_pos h
    have e2 : part c d u = part a b (c' + u * (d' - c')) := by
      rw [ec, ed]
      unfold part plus times less
      apply Prod.ext <;> grind
    rw [e2] at e1
    have e3 : ∀ v : Rat, dot (less (part a b v) a) (less b a) = square (less b a) * v := by
      intro v
      unfold square dot part plus times less
      grind
    have e4 := congrArg (fun q => dot (less q a) (less b a)) e1
    simp only [e3] at e4
    exact cancel pos e4
  unfold meet
  simp only [Bool.or_eq_true]
  by_cases c0 : 0 ≤ c' ∧ c' ≤ 1
  · exact Or.inl ((on_part h).mpr ⟨c', c0.1, c0.2, ec⟩)
  · by_cases d0 : 0 ≤ d' ∧ d' ≤ 1
    · exact Or.inr (Or.inl ((on_part h).mpr ⟨d', d0.1, d0.2, ed⟩))
    · -- a lies between them
      right; right; left
      rw [on_dot]
      simp only [Bool.and_eq_true, beq_iff_eq, decide_eq_true_eq]
      constructor
      · rw [ec, ed]
        unfold side cross part plus times less
        grind
      · have e : dot (less c a) (less d a) = (c' * d') * square (less b a) := by
          rw [ec, ed]
          unfold square dot part plus times less
          grind
        rw [e]
        have key : (c' < 0 ∧ 0 < d') ∨ (0 < c' ∧ d' < 0) := by
          rcases three c' 0 with z | z | z
          · left
            refine ⟨z, ?_⟩
            rcases three 0 d' with w | w | w
            · exact w
            · exact absurd ⟨by grind, by grind⟩ d0
            · -- both below 0: t too
              exfalso
              have p1 := Rat.mul_nonneg (a := 1 - u) (b := -c') (by grind) (by grind)
              have p2 := Rat.mul_nonneg (a := u) (b := -d') u0 (by grind)
              have e5 : t = -((1 - u) * -c') - u * -d' := by grind
              have e6 : (1 - u) * -c' = 0 := by grind
              have e7 : u * -d' = 0 := by grind
              have := Rat.mul_eq_zero.mp e6
              have := Rat.mul_eq_zero.mp e7
              grind
          · exact absurd ⟨by grind, by grind⟩ c0
          · right
            refine ⟨z, ?_⟩
            have c1 : 1 < c' := by grind
            rcases three d' 0 with w | w | w
            · exact w
            · exact absurd ⟨by grind, by grind⟩ d0
            · exfalso
              have d1 : 1 < d' := by grind
              have p1 := Rat.mul_nonneg (a := 1 - u) (b := c' - 1) (by grind) (by grind)
              have p2 := Rat.mul_nonneg (a := u) (b := d' - 1) u0 (by grind)
              have e6 : (1 - u) * (c' - 1) = 0 := by grind
              have e7 : u * (d' - 1) = 0 := by grind
              have := Rat.mul_eq_zero.mp e6
              have := Rat.mul_eq_zero.mp e7
              grind
        have neg := mul_lt.mpr key
        have pos := square_pos h
        have := Rat.mul_nonneg (a := -(c' * d')) (b := square (less b a)) (by grind) (Rat.le_of_lt pos)
        grind
/-- weighed to 0: two signs, or an end, or both 0 -/
theorem weighed {u p q : Rat} (u0 : 0 ≤ u) (u1 : u ≤ 1) (h : (1 - u) * p + u * q = 0) : u = 0 ∨ u = 1 ∨ p * q < 0 ∨ (p = 0 ∧ q = 0) := by
  by_cases z0 : u = 0
  · exact Or.inl z0
  · by_cases z1 : u = 1
    · exact Or.inr (Or.inl z1)
    · right; right
      have a0 : 0 < u := by grind
      have a1 : 0 < 1 - u := by grind
      rcases three p 0 with w | w | w
      · left
        apply mul_lt.mpr
        left
        refine ⟨w, ?_⟩
        rcases three 0 q with v | v | v
        · exact v
        · have := Rat.mul_pos a1 (by grind : 0 < -p)
          grind
        · have := Rat.mul_pos a1 (by grind : 0 < -p)
          have := Rat.mul_pos a0 (by grind : 0 < -q)
          grind
      · right
        refine ⟨w, ?_⟩
        have : u * q = 0 := by grind
        rcases Rat.mul_eq_zero.mp this with v | v
        · exact absurd v z0
        · exact v
      · left
        apply mul_lt.mpr
        right
        refine ⟨w, ?_⟩
        rcases three q 0 with v | v | v
        · exact v
        · have := Rat.mul_pos a1 w
          grind
        · have := Rat.mul_pos a1 w
          have := Rat.mul_pos a0 v
          grind
theorem side_part (a b c d : Point) (u : Rat) : side a b (part c d u) = (1 - u) * side a b c + u * side a b d := by
  unfold side cross part plus times less
  grind
theorem side_on {a b p : Point} (h : on a b p = true) : side a b p = 0 := by
  rw [on_dot] at h
  simp only [Bool.and_eq_true, beq_iff_eq] at h
  exact h.1
/-- **A point in common is told** -/
theorem meet_of {a b c d x : Point} (h : a ≠ b) (k : c ≠ d) (hx : on a b x = true) (hy : on c d x = true) : meet a b c d = true := by
  obtain ⟨t, t0, t1, et⟩ := (on_part h).mp hx
  obtain ⟨u, u0, u1, eu⟩ := (on_part k).mp hy
  have z1 : (1 - u) * side a b c + u * side a b d = 0 := by
    rw [← side_part, ← eu]
    exact side_on hx
  have z2 : (1 - t) * side c d a + t * side c d b = 0 := by
    rw [← side_part, ← et]
    exact side_on hy
  have m : meet a b c d = true ↔ (on a b c = true ∨ on a b d = true ∨ on c d a = true ∨ on c d b = true ∨ (side a b c * side a b d < 0 ∧ side c d a * side c d b < 0)) := by
    unfold meet
    simp only [Bool.or_eq_true, Bool.and_eq_true, decide_eq_true_eq]
  rcases weighed u0 u1 z1 with w | w | w | w
  · rw [w, part_zero] at eu
    rw [eu] at hx
    exact m.mpr (Or.inl hx)
  · rw [w, part_one] at eu
    rw [eu] at hx
    exact m.mpr (Or.inr (Or.inl hx))
  · rcases weighed t0 t1 z2 with v | v | v | v
    · rw [v, part_zero] at et
      rw [et] at hy
      exact m.mpr (Or.inr (Or.inr (Or.inl hy)))
    · rw [v, part_one] at et
      rw [et] at hy
      exact m.mpr (Or.inr (Or.inr (Or.inr (Or.inl hy))))
    · exact m.mpr (Or.inr (Or.inr (Or.inr (Or.inr ⟨w, v⟩))))
    · rw [meet_swap]
      exact meet_line k hy hx h v.1 v.2
  · exact meet_line h hx hy k w.1 w.2
end SR
set_option Elab.async false
/-! # A piece's row; what a seam carries -/
namespace SR
open SeamNum SeamPoly SeamPattern

/-! ### rows -/
theorem at_mod (r : Row) (i : Nat) : at_ r (i % r.length) = at_ r i := by
  unfold at_
  rw [Nat.mod_mod]
structure RowFine (r : Row) : Prop where
  three : 3 ≤ r.length
  most : r.length ≤ 16
  fits : ∀ c ∈ r, fitsP c = true
  ahead : ∀ i, goesBack (at_ r i) (at_ r (i + 1)) (at_ r (i + 2)) = false
  apart : ∀ i, at_ r i ≠ at_ r (i + 1)
  clear : ∀ i, i < r.length → ∀ j, j < r.length → parted r.length i j = true → meet (at_ r i) (at_ r (i + 1)) (at_ r j) (at_ r (j + 1)) = false
  left : 0 < area r
theorem at_step (r : Row) (i k : Nat) : at_ r (i % r.length + k) = at_ r (i + k) := by
  unfold at_
  rw [Nat.mod_add_mod]
theorem rowFine {r : Row} (h : rowRight r = true) : RowFine r := by
  unfold rowRight at h
  simp only [Bool.and_eq_true, decide_eq_true_eq, List.all_eq_true] at h
  obtain ⟨h1, h2, h3, h4, h5⟩ := h
  unfold simple at h4
  simp only [List.all_eq_true, List.mem_range, Bool.and_eq_true, Bool.not_eq_true', Bool.or_eq_true, bne_iff_ne] at h4
  have hp : 0 < r.length := by omega
  refine ⟨h1, h2, h3, fun i => ?_, fun i => ?_, fun i hi j hj k => ?_, h5⟩
  · have q := (h4 (i % r.length) (Nat.mod_lt _ hp)).1.1
    rw [at_mod, at_step, at_step] at q
    exact q
  · have q := (h4 (i % r.length) (Nat.mod_lt _ hp)).1.2
    rw [at_mod, at_step] at q
    exact q
  · rcases (h4 i hi).2 j hj with z | z
    · rw [k] at z; cases z
    · exact z
theorem on_start (a b : Point) : on a b a = true := by
  rw [on_dot]
  simp only [Bool.and_eq_true, beq_iff_eq, decide_eq_true_eq]
  unfold side cross dot less
  constructor <;> grind
theorem on_end (a b : Point) : on a b b = true := by rw [on_swap]; exact on_start b a
/-- two edges, one behind the other -/
theorem corner_only {a b c x : Point} (h : a ≠ b) (k : b ≠ c) (g : goesBack a b c = false) (hx : on a b x = true) (hy : on b c x = true) : x = b := by
  obtain ⟨t, t0, t1, et⟩ := (on_part h).mp hx
  obtain ⟨u, u0, u1, eu⟩ := (on_part k).mp hy
  have pos := square_pos h
  by_cases z : u = 0
  · rw [eu, z, part_zero]
  · have up : 0 < u := by grind
    have e1 : u * side a b c = 0 := by
      have q := side_part a b b c u
      rw [← eu, side_on hx] at q
      have w : side a b b = 0 := side_on (on_end a b)
      rw [w] at q
      grind
    have s0 : side a b c = 0 := by
      rcases Rat.mul_eq_zero.mp e1 with v | v
      · exact absurd v z
      · exact v
    have d0 : 0 < dot (less b a) (less c b) := by
      unfold goesBack at g
      rw [s0] at g
      have z0 : ((0 : Rat) == 0) = true := beq_self_eq_true _
      rw [z0, Bool.true_and] at g
      have := of_decide_eq_false g
      grind
    have e2 : (t - 1) * square (less b a) = u * dot (less b a) (less c b) := by
      have q : part a b t = part b c u := by rw [← et, eu]
      have w : dot (less (part a b t) b) (less b a) = dot (less (part b c u) b) (less b a) := by rw [q]
      have w1 : dot (less (part a b t) b) (less b a) = (t - 1) * square (less b a) := by
        unfold square dot part plus times less
        grind
      have w2 : dot (less (part b c u) b) (less b a) = u * dot (less b a) (less c b) := by
        unfold dot part plus times less
        grind
      rw [w1, w2] at w
      exact w
    have p1 := Rat.mul_pos up d0
    have p2 := Rat.mul_nonneg (a := 1 - t) (b := square (less b a)) (by grind) (Rat.le_of_lt pos)
    exfalso
    grind
/-- a point on two edges is the corner between them -/
theorem two_edges {r : Row} (h : RowFine r) {i j : Nat} (hi : i < r.length) (hj : j < r.length) (ne : i ≠ j) {x : Point} (hx : on (at_ r i) (at_ r (i + 1)) x = true) (hy : on (at_ r j) (at_ r (j + 1)) x = true) : (j = (i + 1) % r.length ∧ x = at_ r j) ∨ (i = (j + 1) % r.length ∧ x = at_ r i) := by
  cases hp : parted r.length i j with
  | true =>
    have := h.clear i hi j hj hp
    rw [meet_of (h.apart i) (h.apart j) hx hy] at this
    cases this
  | false =>
    have q : (i + 1) % r.length = j ∨ (j + 1) % r.length = i := by
      unfold parted at hp
      by_cases z : (i + 1) % r.length = j
      · exact Or.inl z
      · by_cases w : (j + 1) % r.length = i
        · exact Or.inr w
        · exfalso
          rw [bne_iff_ne.mpr ne, bne_iff_ne.mpr z, bne_iff_ne.mpr w] at hp
          cases hp
    rcases q with q | q
    · left
      refine ⟨q.symm, ?_⟩
      have e1 : at_ r j = at_ r (i + 1) := by rw [← q, at_mod]
      have e2 : at_ r (j + 1) = at_ r (i + 2) := by rw [← q, at_step]
      rw [e1, e2] at hy
      rw [e1]
      exact corner_only (h.apart i) (h.apart (i + 1)) (h.ahead i) hx hy
    · right
      refine ⟨q.symm, ?_⟩
      have e1 : at_ r i = at_ r (j + 1) := by rw [← q, at_mod]
      have e2 : at_ r (i + 1) = at_ r (j + 2) := by rw [← q, at_step]
      rw [e1, e2] at hx
      rw [e1]
      exact corner_only (h.apart j) (h.apart (j + 1)) (h.ahead j) hy hx
theorem corner_on {r : Row} (h : RowFine r) {i k : Nat} (hi : i < r.length) (hk : k < r.length) (hx : on (at_ r i) (at_ r (i + 1)) (at_ r k) = true) : k = i ∨ k = (i + 1) % r.length := by
  by_cases ne : i = k
  · exact Or.inl ne.symm
  · rcases two_edges h hi hk ne hx (on_start _ _) with z | z
    · exact Or.inr z.1
    · exfalso
      obtain ⟨z1, z2⟩ := z
      have e : at_ r i = at_ r (k + 1) := by rw [z1, at_mod]
      rw [e] at z2
      exact h.apart k z2
theorem part_inj {a b : Point} (h : a ≠ b) {t u : Rat} (e : part a b t = part a b u) : t = u := by
  have pos := square_pos h
  have e3 : ∀ v : Rat, dot (less (part a b v) a) (less b a) = square (less b a) * v := by
    intro v
    unfold square dot part plus times less
    grind
  have e4 := congrArg (fun q => dot (less q a) (less b a)) e
  simp only [e3] at e4
  exact cancel pos e4
theorem part_turn (a b : Point) (t : Rat) : part a b t = part b a (1 - t) := by
  unfold part plus times less
  apply Prod.ext <;> grind

/-! ### motions -/
theorem motion_some {a b c d : Point} {m : Motion} (h : motionOf a b c d = some m) : square (less b a) ≠ 0 ∧ square (less b a) = square (less d c) ∧ m = ⟨dot (less b a) (less d c) / square (less b a), cross (less b a) (less d c) / square (less b a), c.1 - (dot (less b a) (less d c) / square (less b a) * a.1 - cross (less b a) (less d c) / square (less b a) * a.2), c.2 - (cross (less b a) (less d c) / square (less b a) * a.1 + dot (less b a) (less d c) / square (less b a) * a.2)⟩ := by
  unfold motionOf at h
  simp only at h
  split at h
  · cases h
  · rename_i z
    cases h
    refine ⟨fun w => z (Or.inl w), ?_, rfl⟩
    by_cases w : square (less b a) = square (less d c)
    · exact w
    · exact absurd (Or.inr w) z
theorem motion_is {a b c d : Point} (h : a ≠ b) (k : square (less b a) = square (less d c)) : ∃ m, motionOf a b c d = some m := by
  have z : square (less b a) ≠ 0 := fun z => h (square_zero.mp z)
  unfold motionOf
  simp only
  rw [if_neg (fun w => w.elim z (fun v => v k))]
  exact ⟨_, rfl⟩
theorem motion_right {a b c d : Point} {m : Motion} (h : motionOf a b c d = some m) : m.c * m.c + m.s * m.s = 1 := by
  obtain ⟨h1, h2, rfl⟩ := motion_some h
  simp only
  have e : dot (less b a) (less d c) * dot (less b a) (less d c) + cross (less b a) (less d c) * cross (less b a) (less d c) = square (less b a) * square (less d c) := by
    unfold square dot cross
    grind
  rw [← h2] at e
  generalize square (less b a) = l at *
  generalize dot (less b a) (less d c) = p at *
  generalize cross (less b a) (less d c) = q at *
  have e1 : (l * l) * (p / l * (p / l) + q / l * (q / l)) = (l * l) * 1 := by grind
  have e2 : l * l ≠ 0 := fun z => by rcases Rat.mul_eq_zero.mp z with w | w <;> exact h1 w
  grind
theorem motion_first {a b c d : Point} {m : Motion} (h : motionOf a b c d = some m) : m.at_ a = c := by
  obtain ⟨h1, h2, rfl⟩ := motion_some h
  unfold Motion.at_
  apply Prod.ext <;> simp only <;> grind
theorem motion_second {a b c d : Point} {m : Motion} (h : motionOf a b c d = some m) : m.at_ b = d := by
  obtain ⟨h1, h2, rfl⟩ := motion_some h
  unfold Motion.at_
  have e1 : dot (less b a) (less d c) * (b.1 - a.1) - cross (less b a) (less d c) * (b.2 - a.2) = square (less b a) * (d.1 - c.1) := by
    unfold square dot cross less
    grind
  have e2 : cross (less b a) (less d c) * (b.1 - a.1) + dot (less b a) (less d c) * (b.2 - a.2) = square (less b a) * (d.2 - c.2) := by
    unfold square dot cross less
    grind
  generalize square (less b a) = l at *
  generalize dot (less b a) (less d c) = p at *
  generalize cross (less b a) (less d c) = q at *
  apply Prod.ext <;> simp only <;> grind
theorem at_back {m : Motion} (h : m.c * m.c + m.s * m.s = 1) (p : Point) : m.back.at_ (m.at_ p) = p := by
  obtain ⟨c, s, u, v⟩ := m
  obtain ⟨x, y⟩ := p
  unfold Motion.back Motion.at_
  simp only at *
  apply Prod.ext <;> simp only
  · have e : c * (c * x - s * y + u) - -s * (s * x + c * y + v) + -(c * u + s * v) = (c * c + s * s) * x := by grind
    rw [e, h, Rat.one_mul]
  · have e : -s * (c * x - s * y + u) + c * (s * x + c * y + v) + (s * u - c * v) = (c * c + s * s) * y := by grind
    rw [e, h, Rat.one_mul]
theorem at_part (m : Motion) (a b : Point) (t : Rat) : m.at_ (part a b t) = part (m.at_ a) (m.at_ b) t := by
  unfold Motion.at_ part plus times less
  apply Prod.ext <;> simp only <;> grind
theorem back_part (m : Motion) (a b : Point) (t : Rat) : m.back.at_ (part a b t) = part (m.back.at_ a) (m.back.at_ b) t := at_part m.back a b t

/-! ### seams -/
def mate (l : List Seam) (e : Edge) : Option Edge := l.findSome? fun (s : Seam) => if s.1 = e then some s.2 else if s.2 = e then some s.1 else none
def sewn (l : List Seam) : List Edge := l.flatMap fun (s : Seam) => [s.1, s.2]
theorem mate_cons (s : Seam) (l : List Seam) (e : Edge) : mate (s :: l) e = if s.1 = e then some s.2 else if s.2 = e then some s.1 else mate l e := by
  unfold mate
  rw [List.findSome?_cons]
  split
  · rename_i h
    split at h
    · cases h; rename_i z; rw [if_pos z]
    · rename_i z
      split at h
      · cases h; rename_i w; rw [if_neg z, if_pos w]
      · cases h
  · rename_i h
    split at h
    · cases h
    · rename_i z
      split at h
      · cases h
      · rename_i w; rw [if_neg z, if_neg w]
theorem sewn_cons (s : Seam) (l : List Seam) : sewn (s :: l) = s.1 :: s.2 :: sewn l := by
  unfold sewn
  rw [List.flatMap_cons]
  rfl
theorem mate_sewn : ∀ {l : List Seam} {e f : Edge}, mate l e = some f → e ∈ sewn l ∧ f ∈ sewn l ∧ ((e, f) ∈ l ∨ (f, e) ∈ l)
  | [], e, f, h => by cases h
  | s :: l, e, f, h => by
    rw [mate_cons] at h
    rw [sewn_cons]
    obtain ⟨s1, s2⟩ := s
    simp only at h
    split at h
    · rename_i z
      cases h
      subst z
      exact ⟨by simp, by simp, Or.inl (by simp)⟩
    · split at h
      · rename_i z
        cases h
        subst z
        exact ⟨by simp, by simp, Or.inr (by simp)⟩
      · obtain ⟨q1, q2, q3⟩ := mate_sewn h
        refine ⟨by simp [q1], by simp [q2], ?_⟩
        rcases q3 with z | z
        · exact Or.inl (by simp [z])
        · exact Or.inr (by simp [z])
theorem noneTwice_cons {a : Edge} {l : List Edge} (h : noneTwice (a :: l) = true) : a ∉ l ∧ noneTwice l = true := by
  unfold noneTwice at h
  simp only [Bool.and_eq_true, Bool.not_eq_true'] at h
  refine ⟨fun z => ?_, h.2⟩
  have := h.1
  rw [List.contains_iff_mem.mpr z] at this
  cases this
/-- both ways -/
theorem mate_back : ∀ {l : List Seam} {e f : Edge}, noneTwice (sewn l) = true → mate l e = some f → mate l f = some e
  | [], e, f, _, h => by cases h
  | s :: l, e, f, hn, h => by
    rw [sewn_cons] at hn
    obtain ⟨n1, n2⟩ := noneTwice_cons hn
    obtain ⟨n3, n4⟩ := noneTwice_cons n2
    rw [mate_cons] at h ⊢
    obtain ⟨s1, s2⟩ := s
    simp only at *
    split at h
    · rename_i z
      cases h
      subst z
      have : ¬ s1 = f := fun w => n1 (by rw [w]; simp)
      rw [if_neg this, if_pos rfl]
    · split at h
      · rename_i z
        cases h
        subst z
        rw [if_pos rfl]
      · obtain ⟨_, q2, _⟩ := mate_sewn h
        have w1 : ¬ s1 = f := fun w => n1 (by rw [w]; exact List.mem_cons_of_mem _ q2)
        have w2 : ¬ s2 = f := fun w => n3 (by rw [w]; exact q2)
        rw [if_neg w1, if_neg w2]
        exact mate_back n4 h
theorem mate_of : ∀ {l : List Seam} {s : Seam}, noneTwice (sewn l) = true → s ∈ l → mate l s.1 = some s.2
  | [], s, _, h => by cases h
  | u :: l, s, hn, h => by
    rw [sewn_cons] at hn
    obtain ⟨n1, n2⟩ := noneTwice_cons hn
    obtain ⟨n3, n4⟩ := noneTwice_cons n2
    rw [mate_cons]
    rcases List.mem_cons.mp h with z | z
    · subst z
      rw [if_pos rfl]
    · have m1 : s.1 ∈ sewn l := List.mem_flatMap.mpr ⟨s, z, by simp⟩
      have w1 : ¬ u.1 = s.1 := fun w => n1 (by rw [w]; exact List.mem_cons_of_mem _ m1)
      have w2 : ¬ u.2 = s.1 := fun w => n3 (by rw [w]; exact m1)
      rw [if_neg w1, if_neg w2]
      exact mate_of n4 z
theorem partner_mate (P : Pattern) (e : Edge) : P.partner e = mate P.seams e := rfl
theorem sewn_is (P : Pattern) : P.sewn = sewn P.seams := rfl
end SR
set_option Elab.async false
/-! # Places that are one: how many at most -/
namespace SR
open SeamNum SeamPoly SeamPattern

structure PatFine (P : Pattern) : Prop where
  most : P.pieces.length ≤ 8
  rows : ∀ k, k < P.pieces.length → RowFine (P.row k)
  seams : ∀ s ∈ P.seams, P.maySew s = true
  once : noneTwice (sewn P.seams) = true
theorem row_some {P : Pattern} {k : Nat} (h : k < P.pieces.length) : P.row k = (P.pieces[k]).row := by
  unfold Pattern.row
  rw [List.getElem?_eq_getElem h]
theorem row_none {P : Pattern} {k : Nat} (h : ¬ k < P.pieces.length) : P.row k = [] := by
  unfold Pattern.row
  rw [List.getElem?_eq_none (by omega)]
theorem patFine {P : Pattern} (h : P.right = true) : PatFine P := by
  unfold Pattern.right at h
  simp only [Bool.and_eq_true, decide_eq_true_eq, List.all_eq_true] at h
  obtain ⟨h1, h2, h3, h4, h5, h6⟩ := h
  refine ⟨h2, fun k hk => ?_, h5, h6⟩
  have q := h3 _ (List.getElem_mem hk)
  unfold Piece.right at q
  simp only [Bool.and_eq_true] at q
  rw [row_some hk]
  exact rowFine q.2.1
theorem in_piece {P : Pattern} {k i : Nat} (h : i < (P.row k).length) : k < P.pieces.length := by
  by_cases z : k < P.pieces.length
  · exact z
  · rw [row_none z] at h
    cases h
theorem ends_is {P : Pattern} {e : Edge} (h : e.2 < (P.row e.1).length) : P.ends e = some (at_ (P.row e.1) e.2, at_ (P.row e.1) (e.2 + 1)) := by
  unfold Pattern.ends
  rw [if_pos h]
theorem ends_in {P : Pattern} {e : Edge} {x : Point × Point} (h : P.ends e = some x) : e.2 < (P.row e.1).length := by
  unfold Pattern.ends at h
  split at h
  · assumption
  · cases h
abbrev fromOf (P : Pattern) (e : Edge) : Point := at_ (P.row e.1) e.2
abbrev toOf (P : Pattern) (e : Edge) : Point := at_ (P.row e.1) (e.2 + 1)
theorem maySew_in {P : Pattern} {s : Seam} (h : P.maySew s = true) : s.1 ≠ s.2 ∧ s.1.2 < (P.row s.1.1).length ∧ s.2.2 < (P.row s.2.1).length ∧ square (less (toOf P s.1) (fromOf P s.1)) = square (less (toOf P s.2) (fromOf P s.2)) := by
  unfold Pattern.maySew at h
  rw [Bool.and_eq_true, bne_iff_ne] at h
  obtain ⟨h1, h2⟩ := h
  split at h2
  · rename_i x y hx hy
    have ix := ends_in hx
    have iy := ends_in hy
    rw [ends_is ix] at hx
    rw [ends_is iy] at hy
    cases hx
    cases hy
    exact ⟨h1, ix, iy, by simpa using h2⟩
  · cases h2
theorem mated {P : Pattern} (h : PatFine P) {e f : Edge} (k : P.partner e = some f) : e.2 < (P.row e.1).length ∧ f.2 < (P.row f.1).length ∧ square (less (toOf P e) (fromOf P e)) = square (less (toOf P f) (fromOf P f)) ∧ P.partner f = some e := by
  rw [partner_mate] at k
  have kb := mate_back h.once k
  obtain ⟨_, _, q⟩ := mate_sewn k
  rcases q with z | z
  · obtain ⟨_, a, b, c⟩ := maySew_in (h.seams _ z)
    exact ⟨a, b, c, kb⟩
  · obtain ⟨_, a, b, c⟩ := maySew_in (h.seams _ z)
    exact ⟨b, a, c.symm, kb⟩
theorem square_turn (a b : Point) : square (less a b) = square (less b a) := by
  unfold square dot less
  grind
theorem beyond_is {P : Pattern} (h : PatFine P) {e f : Edge} (k : P.partner e = some f) : ∃ m, motionOf (fromOf P f) (toOf P f) (toOf P e) (fromOf P e) = some m ∧ P.beyond e = some (f, m) := by
  obtain ⟨h1, h2, h3, _⟩ := mated h k
  have rf := h.rows f.1 (in_piece h2)
  obtain ⟨m, hm⟩ := motion_is (a := fromOf P f) (b := toOf P f) (c := toOf P e) (d := fromOf P e) (rf.apart f.2) (by rw [← h3, square_turn])
  refine ⟨m, hm, ?_⟩
  unfold Pattern.beyond
  rw [k]
  simp only [Option.bind_some]
  rw [ends_is h1, ends_is h2]
  simp only
  rw [hm]
  rfl
theorem beyond_none {P : Pattern} {e : Edge} (k : P.partner e = none) : P.beyond e = none := by
  unfold Pattern.beyond
  rw [k]
  rfl
/-- x lies on edge e, a part t of it; y is its partner on f -/
structure Over (P : Pattern) (x y : Place) (e f : Edge) (t : Rat) : Prop where
  mates : P.partner e = some f
  here : x.1 = e.1
  low : 0 ≤ t
  high : t ≤ 1
  place : x.2 = part (fromOf P e) (toOf P e) t
  other : y = (f.1, part (toOf P f) (fromOf P f) t)
theorem touch_mem {P : Pattern} (h : PatFine P) (x y : Place) : y ∈ P.touching x ↔ ∃ e f t, Over P x y e f t := by
  unfold Pattern.touching
  rw [List.mem_filterMap]
  constructor
  · intro ⟨i, hi, hy⟩
    have hi' := List.mem_range.mp hi
    cases hp : P.partner (x.1, i) with
    | none =>
      rw [beyond_none hp] at hy
      cases hy
    | some f =>
      obtain ⟨m, hm, hb⟩ := beyond_is h hp
      rw [hb, ends_is (e := (x.1, i)) hi'] at hy
      simp only at hy
      split at hy
      · rename_i ho
        cases hy
        have rf := h.rows x.1 (in_piece hi')
        obtain ⟨t, t0, t1, et⟩ := (on_part (rf.apart i)).mp ho
        refine ⟨(x.1, i), f, t, hp, rfl, t0, t1, et, ?_⟩
        have r := motion_right hm
        have b1 : m.back.at_ (toOf P (x.1, i)) = fromOf P f := by rw [← motion_first hm]; exact at_back r _
        have b2 : m.back.at_ (fromOf P (x.1, i)) = toOf P f := by rw [← motion_second hm]; exact at_back r _
        have e3 : m.back.at_ x.2 = part (m.back.at_ (fromOf P (x.1, i))) (m.back.at_ (toOf P (x.1, i))) t := by
          rw [et]
          exact back_part m _ _ t
        rw [e3, b1, b2]
      · cases hy
  · intro ⟨e, f, t, o⟩
    obtain ⟨h1, _, _, _⟩ := mated h o.mates
    obtain ⟨x1, x2⟩ := x
    obtain ⟨e1, e2⟩ := e
    have hx : x1 = e1 := o.here
    subst hx
    refine ⟨e2, List.mem_range.mpr h1, ?_⟩
    obtain ⟨m, hm, hb⟩ := beyond_is h o.mates
    rw [hb, ends_is h1]
    simp only
    have rf := h.rows x1 (in_piece h1)
    have ho := (on_part (rf.apart e2)).mpr ⟨t, o.low, o.high, o.place⟩
    rw [if_pos ho, o.other]
    have r := motion_right hm
    have b1 : m.back.at_ (toOf P (x1, e2)) = fromOf P f := by rw [← motion_first hm]; exact at_back r _
    have b2 : m.back.at_ (fromOf P (x1, e2)) = toOf P f := by rw [← motion_second hm]; exact at_back r _
    have e3 : m.back.at_ x2 = part (m.back.at_ (fromOf P (x1, e2))) (m.back.at_ (toOf P (x1, e2))) t := by
      have := o.place
      simp only at this
      rw [this]
      exact back_part m _ _ t
    rw [e3, b1, b2]
/-- both ways -/
theorem Over.back {P : Pattern} (h : PatFine P) {x y : Place} {e f : Edge} {t : Rat} (o : Over P x y e f t) : Over P y x f e (1 - t) := by
  obtain ⟨_, _, _, hb⟩ := mated h o.mates
  refine ⟨hb, by rw [o.other], ?_, ?_, ?_, ?_⟩
  · have := o.high; grind
  · have := o.low; grind
  · rw [o.other]
    simp only
    exact part_turn _ _ t
  · rw [← part_turn, ← o.place, ← o.here]

/-! ### how many at most -/
def corners (P : Pattern) : List Place := P.edges.map fun (e : Edge) => (e.1, fromOf P e)
theorem corners_len (P : Pattern) : (corners P).length = P.edges.length := List.length_map _
theorem edges_mem {P : Pattern} (e : Edge) : e ∈ P.edges ↔ e.2 < (P.row e.1).length := by
  unfold Pattern.edges
  rw [List.mem_flatMap]
  constructor
  · intro ⟨k, _, h2⟩
    obtain ⟨i, hi, rfl⟩ := List.mem_map.mp h2
    exact List.mem_range.mp hi
  · intro h
    exact ⟨e.1, List.mem_range.mpr (in_piece h), List.mem_map.mpr ⟨e.2, List.mem_range.mpr h, rfl⟩⟩
theorem corner_from {P : Pattern} {e : Edge} (h : e.2 < (P.row e.1).length) : (e.1, fromOf P e) ∈ corners P := List.mem_map.mpr ⟨e, (edges_mem e).mpr h, rfl⟩
theorem corner_to {P : Pattern} {e : Edge} (h : e.2 < (P.row e.1).length) : (e.1, toOf P e) ∈ corners P := by
  have q := corner_from (P := P) (e := (e.1, (e.2 + 1) % (P.row e.1).length)) (Nat.mod_lt _ (by omega))
  unfold fromOf at q
  simp only at q
  rw [at_mod] at q
  exact q
/-- of corners only the edges' ends lie on edges -/
theorem corner_ends {P : Pattern} (h : PatFine P) {x y : Place} {e f : Edge} {t : Rat} (o : Over P x y e f t) (c : x ∈ corners P) : t = 0 ∨ t = 1 := by
  obtain ⟨g, hg, rfl⟩ := List.mem_map.mp c
  have hg' := (edges_mem g).mp hg
  obtain ⟨h1, _, _, _⟩ := mated h o.mates
  have here : g.1 = e.1 := o.here
  have rf := h.rows e.1 (in_piece h1)
  have place : fromOf P g = part (fromOf P e) (toOf P e) t := o.place
  have ap := rf.apart e.2
  have ho : on (fromOf P e) (toOf P e) (fromOf P g) = true := (on_part ap).mpr ⟨t, o.low, o.high, place⟩
  obtain ⟨g1, g2⟩ := g
  simp only at here
  subst here
  rcases corner_on rf h1 hg' ho with z | z
  · left
    have e1 : fromOf P (e.1, g2) = fromOf P e := by simp only at z; rw [z]
    rw [e1] at place
    have : part (fromOf P e) (toOf P e) 0 = part (fromOf P e) (toOf P e) t := by rw [part_zero]; exact place
    exact (part_inj ap this).symm
  · right
    have e1 : fromOf P (e.1, g2) = toOf P e := by
      simp only at z
      unfold fromOf toOf
      simp only
      rw [z, at_mod]
    rw [e1] at place
    have : part (fromOf P e) (toOf P e) 1 = part (fromOf P e) (toOf P e) t := by rw [part_one]; exact place
    exact (part_inj ap this).symm
theorem corner_carried {P : Pattern} (h : PatFine P) {x y : Place} {e f : Edge} {t : Rat} (o : Over P x y e f t) (c : x ∈ corners P) : y ∈ corners P := by
  obtain ⟨_, h2, _, _⟩ := mated h o.mates
  rw [o.other]
  rcases corner_ends h o c with z | z
  · rw [z, part_zero]
    exact corner_to h2
  · rw [z, part_one]
    exact corner_from h2
/-- what is no corner lies on one edge alone -/
theorem one_edge {P : Pattern} (h : PatFine P) {x y z : Place} {e f e' f' : Edge} {t u : Rat} (o : Over P x y e f t) (o' : Over P x z e' f' u) (c : x ∉ corners P) : y = z := by
  obtain ⟨h1, _, _, _⟩ := mated h o.mates
  obtain ⟨h1', _, _, _⟩ := mated h o'.mates
  have rf := h.rows e.1 (in_piece h1)
  obtain ⟨e1, e2⟩ := e
  obtain ⟨e1', e2'⟩ := e'
  have k1 : x.1 = e1 := o.here
  have k2 : x.1 = e1' := o'.here
  have k3 : e1' = e1 := by rw [← k1, ← k2]
  subst k3
  have ho := (on_part (rf.apart e2)).mpr ⟨t, o.low, o.high, o.place⟩
  have ho' := (on_part (rf.apart e2')).mpr ⟨u, o'.low, o'.high, o'.place⟩
  by_cases ne : e2 = e2'
  · subst ne
    have hf : f = f' := by
      have q := o.mates
      rw [o'.mates] at q
      exact (Option.some.inj q).symm
    subst hf
    have ht : t = u := part_inj (rf.apart e2) (by rw [← o.place, ← o'.place])
    subst ht
    rw [o.other, o'.other]
  · exfalso
    have q : x = (x.1, x.2) := rfl
    rcases two_edges rf h1 h1' ne ho ho' with ⟨_, w⟩ | ⟨_, w⟩
    · apply c
      rw [q, k1, w]
      exact corner_from (P := P) (e := (e1', e2')) h1'
    · apply c
      rw [q, k1, w]
      exact corner_from (P := P) (e := (e1', e2)) h1
theorem corner_not {P : Pattern} (h : PatFine P) {x y : Place} {e f : Edge} {t : Rat} (o : Over P x y e f t) (c : x ∉ corners P) : y ∉ corners P := fun z => c (corner_carried h (o.back h) z)
theorem edges_pos {P : Pattern} {e : Edge} (h : e.2 < (P.row e.1).length) : 0 < P.edges.length := List.length_pos_of_mem ((edges_mem e).mpr h)
/-- **no more places are one with a place than there are edges, but one** -/
theorem led_few {P : Pattern} (h : PatFine P) (x : Place) : ∃ L : List Place, L.length ≤ P.edges.length + 1 ∧ ∀ y, Led P.touching x y → y ∈ L := by
  by_cases c : x ∈ corners P
  · refine ⟨corners P, by rw [corners_len]; omega, fun y hy => ?_⟩
    induction hy with
    | self => exact c
    | step _ hz ih =>
      obtain ⟨e, f, t, o⟩ := (touch_mem h _ _).mp hz
      exact corner_carried h o ih
  · by_cases any : ∃ y, y ∈ P.touching x
    · obtain ⟨y, hy⟩ := any
      obtain ⟨e, f, t, o⟩ := (touch_mem h _ _).mp hy
      have hp := edges_pos (mated h o.mates).1
      refine ⟨[x, y], by simp only [List.length_cons, List.length_nil]; omega, fun z hz => ?_⟩
      induction hz with
      | self => simp
      | step _ hw ih =>
        obtain ⟨e', f', t', o'⟩ := (touch_mem h _ _).mp hw
        rcases List.mem_cons.mp ih with q | q
        · subst q
          have := one_edge h o o' c
          rw [← this]
          simp
        · have q' := List.mem_singleton.mp q
          subst q'
          have := one_edge h (o.back h) o' (corner_not h o c)
          rw [← this]
          simp
    · refine ⟨[x], by simp, fun z hz => ?_⟩
      induction hz with
      | self => simp
      | step _ hw ih =>
        have q := List.mem_singleton.mp ih
        subst q
        exact absurd ⟨_, hw⟩ any
/-- **the rounds end: all that are one** -/
theorem closure_all {P : Pattern} (h : PatFine P) (x : Place) : AllLed P.touching x (P.closure (P.edges.length + 1) [x] [x]) := by
  obtain ⟨L, hL, hm⟩ := led_few h x
  rw [closure_rounds]
  exact rounds_all P.touching x L hm _ _ _ (Way.start P.touching x) (by simp only [List.length_singleton]; omega)
/-- **Whatever row in order has just these, is the answer** -/
theorem ones_is {P : Pattern} (h : PatFine P) {x : Place} {m : List Place} (a : AllLed P.touching x m) (k : m.Pairwise fun u v => noLater u v = true) : P.ones x = m := by
  unfold Pattern.ones
  exact order_is ((closure_all h x).perm _ a) k
end SR
set_option Elab.async false
/-! # How often a row goes round a point: sums, one edge at a time -/
namespace SR
open SeamNum SeamPoly SeamPattern

/-! ### sums -/
def sumTo : Nat → (Nat → Int) → Int
  | 0, _ => 0
  | n + 1, F => sumTo n F + F n
theorem sumTo_congr {F G : Nat → Int} : ∀ {n : Nat}, (∀ k, k < n → F k = G k) → sumTo n F = sumTo n G
  | 0, _ => rfl
  | n + 1, h => by
    unfold sumTo
    rw [sumTo_congr fun k hk => h k (by omega), h n (by omega)]
theorem sumTo_add (F G : Nat → Int) : ∀ n, sumTo n (fun k => F k + G k) = sumTo n F + sumTo n G
  | 0 => rfl
  | n + 1 => by
    simp only [sumTo]
    rw [sumTo_add F G n]
    omega
theorem sumTo_sub (F G : Nat → Int) : ∀ n, sumTo n (fun k => F k - G k) = sumTo n F - sumTo n G
  | 0 => rfl
  | n + 1 => by
    simp only [sumTo]
    rw [sumTo_sub F G n]
    omega
theorem sumTo_tel (G : Nat → Int) : ∀ n, sumTo n (fun k => G (k + 1) - G k) = G n - G 0
  | 0 => by unfold sumTo; omega
  | n + 1 => by
    simp only [sumTo]
    rw [sumTo_tel G n]
    omega
theorem sumTo_zero : ∀ n, sumTo n (fun _ => 0) = 0
  | 0 => rfl
  | n + 1 => by
    unfold sumTo
    rw [sumTo_zero n]
    rfl
theorem sumTo_one (i : Nat) (d : Int) : ∀ n, sumTo n (fun k => if k = i then d else 0) = if i < n then d else 0
  | 0 => by simp [sumTo]
  | n + 1 => by
    simp only [sumTo]
    rw [sumTo_one i d n]
    by_cases h : n = i
    · subst h
      rw [if_neg (by omega), if_pos rfl, if_pos (by omega)]
      omega
    · rw [if_neg h]
      by_cases k : i < n
      · rw [if_pos k, if_pos (by omega)]; omega
      · rw [if_neg k, if_neg (by omega)]; omega
theorem fold_sum {α : Type} (f : α → Int) : ∀ (l : List α) (n : Int), l.foldl (fun n e => n + f e) n = n + l.foldl (fun n e => n + f e) 0
  | [], n => by simp
  | a :: l, n => by
    rw [List.foldl_cons, List.foldl_cons, fold_sum f l (n + f a), fold_sum f l (0 + f a)]
    omega
theorem range_sum (f : Nat → Int) : ∀ n, (List.range n).foldl (fun m k => m + f k) 0 = sumTo n f
  | 0 => rfl
  | n + 1 => by
    rw [List.range_succ, List.foldl_append, range_sum f n]
    rfl
theorem winds_sum (r : Row) (p : Point) : winds r p = sumTo r.length fun k => passes p (at_ r k, at_ r (k + 1)) := by
  unfold winds edges
  rw [List.foldl_map]
  exact range_sum _ _

/-! ### one edge -/
theorem passes_turn (z a b : Point) : passes z (b, a) = -passes z (a, b) := by
  unfold passes
  simp only [side_swap a b z]
  by_cases h1 : a.2 ≤ z.2 ∧ z.2 < b.2 ∧ 0 < side a b z
  · rw [if_pos h1, if_neg (by grind), if_pos (by grind)]
  · by_cases h2 : b.2 ≤ z.2 ∧ z.2 < a.2 ∧ side a b z < 0
    · rw [if_neg h1, if_pos h2, if_pos (by grind)]
      rfl
    · rw [if_neg h1, if_neg h2, if_neg (by grind), if_neg (by grind)]
      rfl
theorem passes_on {z a b : Point} (h : side a b z = 0) : passes z (a, b) = 0 := by
  unfold passes
  simp only
  rw [if_neg (by grind), if_neg (by grind)]
/-- where an edge that goes up passes the height of z -/
theorem level {a b z : Point} (h1 : a.2 ≤ z.2) (h2 : z.2 < b.2) : ∃ t : Rat, 0 ≤ t ∧ t ≤ 1 ∧ (part a b t).2 = z.2 ∧ (0 < side a b z ↔ z.1 < (part a b t).1) := by
  have hd : 0 < b.2 - a.2 := by grind
  have hne : b.2 - a.2 ≠ 0 := by grind
  have e0 : (b.2 - a.2) * ((z.2 - a.2) / (b.2 - a.2)) = z.2 - a.2 := by grind
  refine ⟨(z.2 - a.2) / (b.2 - a.2), ?_, ?_, ?_, ?_⟩
  · apply cancel_le hd
    rw [e0]
    grind
  · apply cancel_le hd
    rw [e0]
    grind
  · unfold part plus times less
    simp only
    grind
  · generalize ht : (z.2 - a.2) / (b.2 - a.2) = t at e0
    have e1 : side a b z = (b.2 - a.2) * ((part a b t).1 - z.1) := by
      unfold side cross part plus times less
      simp only
      grind
    rw [e1]
    constructor
    · intro h
      rcases three z.1 (part a b t).1 with w | w | w
      · exact w
      · have : (part a b t).1 - z.1 = 0 := by grind
        rw [this, Rat.mul_zero] at h
        exact absurd h (by decide)
      · have := Rat.mul_pos hd (by grind : 0 < z.1 - (part a b t).1)
        grind
    · intro h
      exact Rat.mul_pos hd (by grind)
theorem part_part (a b : Point) (t u v : Rat) : part (part a b t) (part a b u) v = part a b (t + v * (u - t)) := by
  unfold part plus times less
  apply Prod.ext <;> simp only <;> grind
/-- between two parts of a way -/
theorem mix {t u v : Rat} (t0 : 0 ≤ t) (t1 : t ≤ 1) (u0 : 0 ≤ u) (u1 : u ≤ 1) (v0 : 0 ≤ v) (v1 : v ≤ 1) : 0 ≤ t + v * (u - t) ∧ t + v * (u - t) ≤ 1 := by
  have a1 := Rat.mul_nonneg v0 u0
  have a2 := Rat.mul_nonneg (a := 1 - v) (b := t) (by grind) t0
  have a3 := Rat.mul_nonneg v0 (by grind : 0 ≤ 1 - u)
  have a4 := Rat.mul_nonneg (a := 1 - v) (b := 1 - t) (by grind) (by grind)
  constructor <;> grind
/-- on both sides of the way within its heights: it's met -/
theorem met {a b p q : Point} {t u : Rat} (hab : a ≠ b) (hpq : p.2 < q.2) (t0 : 0 ≤ t) (t1 : t ≤ 1) (u0 : 0 ≤ u) (u1 : u ≤ 1)
    (c1 : p.2 ≤ (part a b t).2) (c2 : (part a b t).2 ≤ q.2) (d1 : p.2 ≤ (part a b u).2) (d2 : (part a b u).2 ≤ q.2)
    (hs : side p q (part a b t) < 0) (hr : 0 ≤ side p q (part a b u)) : ∃ x, on a b x = true ∧ on p q x = true := by
  have hne : p ≠ q := fun z => by rw [z] at hpq; grind
  generalize hx : side p q (part a b t) = x at hs
  generalize hy : side p q (part a b u) = y at hr
  have hd : 0 < y - x := by grind
  have hdn : y - x ≠ 0 := by grind
  have e0 : (y - x) * (-x / (y - x)) = -x := by grind
  have v0 : 0 ≤ -x / (y - x) := by
    apply cancel_le hd
    rw [e0]
    grind
  have v1 : -x / (y - x) ≤ 1 := by
    apply cancel_le hd
    rw [e0]
    grind
  generalize hv : -x / (y - x) = v at e0 v0 v1
  obtain ⟨m0, m1⟩ := mix t0 t1 u0 u1 v0 v1
  have es : side p q (part a b (t + v * (u - t))) = 0 := by
    rw [← part_part, side_part, hx, hy]
    grind
  have ey : (part a b (t + v * (u - t))).2 = (1 - v) * (part a b t).2 + v * (part a b u).2 := by
    unfold part plus times less
    simp only
    grind
  refine ⟨part a b (t + v * (u - t)), (on_part hab).mpr ⟨_, m0, m1, rfl⟩, ?_⟩
  obtain ⟨w, ew⟩ := along hne es
  have y1 : p.2 ≤ (part a b (t + v * (u - t))).2 := by
    rw [ey]
    have := Rat.mul_nonneg (a := 1 - v) (b := (part a b t).2 - p.2) (by grind) (by grind)
    have := Rat.mul_nonneg (a := v) (b := (part a b u).2 - p.2) v0 (by grind)
    grind
  have y2 : (part a b (t + v * (u - t))).2 ≤ q.2 := by
    rw [ey]
    have := Rat.mul_nonneg (a := 1 - v) (b := q.2 - (part a b t).2) (by grind) (by grind)
    have := Rat.mul_nonneg (a := v) (b := q.2 - (part a b u).2) v0 (by grind)
    grind
  rw [ew] at y1 y2
  have e3 : (part p q w).2 = p.2 + w * (q.2 - p.2) := rfl
  rw [e3] at y1 y2
  have hk : 0 < q.2 - p.2 := by grind
  refine (on_part hne).mpr ⟨w, ?_, ?_, ew⟩
  · apply cancel_le hk
    grind
  · apply cancel_le hk
    grind
/-- right of the way from p up to q, above p's height, not above q's -/
def strip (p q z : Point) : Int := if p.2 < z.2 ∧ z.2 ≤ q.2 ∧ side p q z < 0 then 1 else 0
def one (P : Prop) [Decidable P] : Int := if P then 1 else 0
theorem one_congr {P Q : Prop} [Decidable P] [Decidable Q] (h : P ↔ Q) : one P = one Q := by
  unfold one
  by_cases k : P
  · rw [if_pos k, if_pos (h.mp k)]
  · rw [if_neg k, if_neg fun z => k (h.mpr z)]
theorem side_level {p q c : Point} (hpq : p.2 < q.2) (e : c.2 = p.2) : side p q c < 0 ↔ p.1 < c.1 := by
  have e1 : side p q c = (q.2 - p.2) * (p.1 - c.1) := by
    unfold side cross less
    simp only
    grind
  rw [e1]
  have hd : 0 < q.2 - p.2 := by grind
  rw [mul_lt]
  grind
theorem side_levelq {p q c : Point} (hpq : p.2 < q.2) (e : c.2 = q.2) : side p q c < 0 ↔ q.1 < c.1 := by
  have e1 : side p q c = (q.2 - p.2) * (q.1 - c.1) := by
    unfold side cross less
    simp only
    grind
  rw [e1]
  have hd : 0 < q.2 - p.2 := by grind
  rw [mul_lt]
  grind
theorem passes_up {a b z : Point} (h1 : a.2 ≤ z.2) (h2 : z.2 < b.2) : passes z (a, b) = one (0 < side a b z) := by
  unfold passes one
  simp only
  by_cases h : 0 < side a b z
  · rw [if_pos ⟨h1, h2, h⟩, if_pos h]
  · rw [if_neg (fun w => h w.2.2), if_neg (by grind), if_neg h]
theorem passes_no {a b z : Point} (h : a.2 ≤ b.2) (k : ¬ (a.2 ≤ z.2 ∧ z.2 < b.2)) : passes z (a, b) = 0 := by
  unfold passes
  simp only
  rw [if_neg (fun w => k ⟨w.1, w.2.1⟩), if_neg (by grind)]
/-- **what an edge that isn't met changes, up a way** -/
theorem change_up0 {a b p q : Point} (hab : a ≠ b) (hpq : p.2 < q.2) (no : ∀ x, on a b x = true → on p q x = true → False) (hu : a.2 ≤ b.2) :
    passes p (a, b) - passes q (a, b) = strip p q b - strip p q a := by
  have M : ∀ t u : Rat, 0 ≤ t → t ≤ 1 → 0 ≤ u → u ≤ 1 → p.2 ≤ (part a b t).2 → (part a b t).2 ≤ q.2 → p.2 ≤ (part a b u).2 → (part a b u).2 ≤ q.2 → (side p q (part a b t) < 0 ↔ side p q (part a b u) < 0) := by
    intro t u t0 t1 u0 u1 c1 c2 d1 d2
    have one1 : ∀ t u : Rat, 0 ≤ t → t ≤ 1 → 0 ≤ u → u ≤ 1 → p.2 ≤ (part a b t).2 → (part a b t).2 ≤ q.2 → p.2 ≤ (part a b u).2 → (part a b u).2 ≤ q.2 → side p q (part a b t) < 0 → side p q (part a b u) < 0 := by
      intro t u t0 t1 u0 u1 c1 c2 d1 d2 h
      rcases three (side p q (part a b u)) 0 with z | z | z
      · exact z
      · obtain ⟨x, x1, x2⟩ := met hab hpq t0 t1 u0 u1 c1 c2 d1 d2 h (by grind)
        exact (no x x1 x2).elim
      · obtain ⟨x, x1, x2⟩ := met hab hpq t0 t1 u0 u1 c1 c2 d1 d2 h (by grind)
        exact (no x x1 x2).elim
    exact ⟨one1 t u t0 t1 u0 u1 c1 c2 d1 d2, one1 u t u0 u1 t0 t1 d1 d2 c1 c2⟩
  have eA : part a b 0 = a := part_zero a b
  have eB : part a b 1 = b := part_one a b
  have low : ∀ z : Point, z.2 ≤ p.2 → strip p q z = 0 := fun z hz => by unfold strip; rw [if_neg (by grind)]
  have high : ∀ z : Point, q.2 < z.2 → strip p q z = 0 := fun z hz => by unfold strip; rw [if_neg (by grind)]
  have mid : ∀ z : Point, p.2 < z.2 → z.2 ≤ q.2 → strip p q z = one (side p q z < 0) := fun z h1 h2 => by
    unfold strip one
    by_cases h : side p q z < 0
    · rw [if_pos ⟨h1, h2, h⟩, if_pos h]
    · rw [if_neg (fun w => h w.2.2), if_neg h]
  by_cases a1 : a.2 ≤ p.2
  · by_cases b1 : b.2 ≤ p.2
    · rw [passes_no hu (by grind), passes_no hu (by grind), low a a1, low b b1]
    · obtain ⟨t, t0, t1, et, ht⟩ := level (z := p) a1 (by grind : p.2 < b.2)
      have s1 : passes p (a, b) = one (side p q (part a b t) < 0) := by
        rw [passes_up a1 (by grind)]
        exact one_congr (ht.trans (side_level hpq et).symm)
      by_cases b2 : b.2 ≤ q.2
      · rw [s1, passes_no hu (by grind), low a a1, mid b (by grind) b2]
        have := one_congr (M t 1 t0 t1 (by decide) (by decide) (by grind) (by grind) (by grind) (by grind))
        rw [this, eB]
      · obtain ⟨u, u0, u1, eu, hu2⟩ := level (a := a) (b := b) (z := q) (by grind) (by grind)
        have s2 : passes q (a, b) = one (side p q (part a b u) < 0) := by
          rw [passes_up (by grind) (by grind)]
          exact one_congr (hu2.trans (side_levelq hpq eu).symm)
        rw [s1, s2, low a a1, high b (by grind)]
        have := one_congr (M t u t0 t1 u0 u1 (by grind) (by grind) (by grind) (by grind))
        rw [this]
        omega
  · by_cases a2 : a.2 ≤ q.2
    · by_cases b2 : b.2 ≤ q.2
      · rw [passes_no hu (by grind), passes_no hu (by grind), mid a (by grind) a2, mid b (by grind) b2]
        have := one_congr (M 0 1 (by decide) (by decide) (by decide) (by decide) (by grind) (by grind) (by grind) (by grind))
        rw [eA, eB] at this
        rw [this]
        omega
      · obtain ⟨u, u0, u1, eu, hu2⟩ := level (a := a) (b := b) (z := q) a2 (by grind)
        have s2 : passes q (a, b) = one (side p q (part a b u) < 0) := by
          rw [passes_up a2 (by grind)]
          exact one_congr (hu2.trans (side_levelq hpq eu).symm)
        rw [passes_no hu (by grind), s2, mid a (by grind) a2, high b (by grind)]
        have := one_congr (M 0 u (by decide) (by decide) u0 u1 (by grind) (by grind) (by grind) (by grind))
        rw [eA] at this
        rw [this]
    · rw [passes_no hu (by grind), passes_no hu (by grind), high a (by grind), high b (by grind)]
theorem change_up {a b p q : Point} (hab : a ≠ b) (hpq : p.2 < q.2) (no : ∀ x, on a b x = true → on p q x = true → False) :
    passes p (a, b) - passes q (a, b) = strip p q b - strip p q a := by
  by_cases hu : a.2 ≤ b.2
  · exact change_up0 hab hpq no hu
  · have q1 := change_up0 (a := b) (b := a) (fun z => hab z.symm) hpq (fun x h1 h2 => no x (by rw [on_swap]; exact h1) h2) (by grind)
    rw [passes_turn p a b, passes_turn q a b] at q1
    omega
/-- level -/
theorem change_flat0 {a b p q : Point} (hab : a ≠ b) (hpq : p.2 = q.2) (ne : p ≠ q) (no : ∀ x, on a b x = true → on p q x = true → False) (hu : a.2 ≤ b.2) : passes p (a, b) = passes q (a, b) := by
  by_cases h : a.2 ≤ p.2 ∧ p.2 < b.2
  · obtain ⟨t, t0, t1, et, ht⟩ := level h.1 h.2
    obtain ⟨u, u0, u1, eu, hu2⟩ := level (a := a) (b := b) (z := q) (by grind) (by grind)
    have e : t = u := by
      have hd : 0 < b.2 - a.2 := by grind
      have e1 : (part a b t).2 = a.2 + t * (b.2 - a.2) := rfl
      have e2 : (part a b u).2 = a.2 + u * (b.2 - a.2) := rfl
      apply cancel hd
      grind
    subst e
    rw [passes_up h.1 h.2, passes_up (by grind) (by grind)]
    apply one_congr
    rw [ht, hu2]
    have key : ¬ amid p.1 q.1 (part a b t).1 := by
      intro am
      refine no (part a b t) ((on_part hab).mpr ⟨t, t0, t1, rfl⟩) ((on_box p q _).mpr ⟨?_, am, ?_⟩)
      · unfold side cross less
        simp only
        grind
      · rw [et]
        unfold amid
        grind
    unfold amid at key
    grind
  · rw [passes_no hu h, passes_no hu (by grind)]
theorem change_flat {a b p q : Point} (hab : a ≠ b) (hpq : p.2 = q.2) (ne : p ≠ q) (no : ∀ x, on a b x = true → on p q x = true → False) : passes p (a, b) = passes q (a, b) := by
  by_cases hu : a.2 ≤ b.2
  · exact change_flat0 hab hpq ne no hu
  · have q1 := change_flat0 (a := b) (b := a) (fun z => hab z.symm) hpq ne (fun x h1 h2 => no x (by rw [on_swap]; exact h1) h2) (by grind)
    rw [passes_turn p a b, passes_turn q a b] at q1
    omega
end SR
set_option Elab.async false
set_option linter.unusedVariables false
/-! # How often a row goes round a point: along its own edges -/
namespace SR
open SeamNum SeamPoly SeamPattern

theorem succ_mod {k n : Nat} (h : k < n) : (k + 1) % n = if k + 1 = n then 0 else k + 1 := by
  by_cases z : k + 1 = n
  · rw [if_pos z, z, Nat.mod_self]
  · rw [if_neg z, Nat.mod_eq_of_lt (by omega)]
theorem step_mod (j n : Nat) : (j + 1) % n = (j % n + 1) % n := by rw [Nat.mod_add_mod]
/-- three places in a row -/
theorem three_mod {j n : Nat} (h : 3 ≤ n) : j % n ≠ (j + 1) % n ∧ (j + 1) % n ≠ (j + 2) % n ∧ j % n ≠ (j + 2) % n := by
  have h0 : j % n < n := Nat.mod_lt _ (by omega)
  have h1 : (j + 1) % n < n := Nat.mod_lt _ (by omega)
  have e1 : (j + 1) % n = if j % n + 1 = n then 0 else j % n + 1 := by rw [step_mod, succ_mod h0]
  have e2 : (j + 2) % n = if (j + 1) % n + 1 = n then 0 else (j + 1) % n + 1 := by rw [step_mod (j + 1), succ_mod h1]
  generalize j % n = a at *
  generalize (j + 1) % n = b at *
  generalize (j + 2) % n = c at *
  split at e1 <;> split at e2 <;> omega
theorem back_mod {j k n : Nat} (hk : k < n) (h : (j + 1) % n = (k + 1) % n) : k = j % n := by
  have h0 : j % n < n := Nat.mod_lt _ (by omega)
  rw [step_mod, succ_mod h0, succ_mod hk] at h
  generalize j % n = a at *
  split at h <;> split at h <;> omega

section
variable {r : Row} {j : Nat}
/-- a part of an edge: what else touches it -/
theorem seg_only (h : RowFine r) {s t : Rat} (s0 : 0 ≤ s) (s1 : s ≤ 1) (t0 : 0 ≤ t) (t1 : t ≤ 1) (ne : s ≠ t) {k : Nat} (hk : k < r.length) {x : Point} (hx : on (at_ r k) (at_ r (k + 1)) x = true)
    (hy : on (part (at_ r (j + 1)) (at_ r (j + 2)) s) (part (at_ r (j + 1)) (at_ r (j + 2)) t) x = true) :
    k = (j + 1) % r.length ∨ (k = (j + 2) % r.length ∧ (s = 1 ∨ t = 1)) ∨ (k = j % r.length ∧ (s = 0 ∨ t = 0)) := by
  have ap := h.apart (j + 1)
  have npq : part (at_ r (j + 1)) (at_ r (j + 2)) s ≠ part (at_ r (j + 1)) (at_ r (j + 2)) t := fun z => ne (part_inj ap z)
  obtain ⟨v, v0, v1, ev⟩ := (on_part npq).mp hy
  rw [part_part] at ev
  obtain ⟨m0, m1⟩ := mix s0 s1 t0 t1 v0 v1
  have onE : on (at_ r (j + 1)) (at_ r (j + 2)) x = true := (on_part ap).mpr ⟨_, m0, m1, ev⟩
  by_cases z : k = (j + 1) % r.length
  · exact Or.inl z
  · have hj : (j + 1) % r.length < r.length := Nat.mod_lt _ (by have := h.three; omega)
    have onE' : on (at_ r ((j + 1) % r.length)) (at_ r ((j + 1) % r.length + 1)) x = true := by rw [at_mod, at_step]; exact onE
    right
    rcases two_edges h hj hk (fun w => z w.symm) onE' hx with ⟨w1, w2⟩ | ⟨w1, w2⟩
    · left
      have ek : k = (j + 2) % r.length := by rw [w1, ← step_mod]
      refine ⟨ek, ?_⟩
      rw [ek, at_mod] at w2
      have : part (at_ r (j + 1)) (at_ r (j + 2)) 1 = part (at_ r (j + 1)) (at_ r (j + 2)) (s + v * (t - s)) := by rw [part_one, ← ev, w2]
      have e1 := part_inj ap this
      by_cases z1 : s = 1
      · exact Or.inl z1
      · by_cases z2 : t = 1
        · exact Or.inr z2
        · exfalso
          have b1 := Rat.mul_nonneg (a := 1 - v) (b := 1 - s) (by grind) (by grind)
          have b2 := Rat.mul_nonneg (a := v) (b := 1 - t) v0 (by grind)
          have b3 : (1 - v) * (1 - s) = 0 := by grind
          have b4 : v * (1 - t) = 0 := by grind
          rcases Rat.mul_eq_zero.mp b3 with q | q
          · rcases Rat.mul_eq_zero.mp b4 with q' | q' <;> grind
          · grind
    · right
      refine ⟨back_mod hk w1, ?_⟩
      rw [at_mod] at w2
      have : part (at_ r (j + 1)) (at_ r (j + 2)) 0 = part (at_ r (j + 1)) (at_ r (j + 2)) (s + v * (t - s)) := by rw [part_zero, ← ev, w2]
      have e1 := part_inj ap this
      by_cases z1 : s = 0
      · exact Or.inl z1
      · by_cases z2 : t = 0
        · exact Or.inr z2
        · exfalso
          have b1 := Rat.mul_nonneg (a := 1 - v) (b := s) (by grind) s0
          have b2 := Rat.mul_nonneg (a := v) (b := t) v0 t0
          have b3 : (1 - v) * s = 0 := by grind
          have b4 : v * t = 0 := by grind
          rcases Rat.mul_eq_zero.mp b3 with q | q
          · rcases Rat.mul_eq_zero.mp b4 with q' | q' <;> grind
          · grind
theorem side_same (a b : Point) (s t : Rat) : side a b (part a b s) = 0 ∧ side (part a b s) (part a b t) a = 0 ∧ side (part a b s) (part a b t) b = 0 := by
  refine ⟨?_, ?_, ?_⟩ <;> (unfold side cross part plus times less; simp only; grind)
theorem strip_zero {p q z : Point} (h : side p q z = 0) : strip p q z = 0 := by
  unfold strip
  rw [if_neg (by grind)]
def change (p q a b : Point) : Int := passes p (a, b) - passes q (a, b) - (strip p q b - strip p q a)
theorem at_all (r : Row) : at_ r r.length = at_ r 0 := by
  unfold at_
  rw [Nat.mod_self, Nat.zero_mod]
/-- **up along a part of an edge** -/
theorem walk_up (h : RowFine r) {s t : Rat} (s0 : 0 ≤ s) (s1 : s ≤ 1) (t0 : 0 ≤ t) (t1 : t ≤ 1) {p q : Point} (ep : p = part (at_ r (j + 1)) (at_ r (j + 2)) s) (eq : q = part (at_ r (j + 1)) (at_ r (j + 2)) t) (hpq : p.2 < q.2) :
    winds r p - winds r q = (if s = 1 ∨ t = 1 then change p q (at_ r (j + 2)) (at_ r (j + 3)) else 0) + (if s = 0 ∨ t = 0 then change p q (at_ r j) (at_ r (j + 1)) else 0) := by
  have ne : s ≠ t := fun z => by
    rw [ep, eq, z] at hpq
    grind
  have hn := h.three
  obtain ⟨m1, m2, m3⟩ := three_mod (j := j) hn
  have hj0 : j % r.length < r.length := Nat.mod_lt _ (by omega)
  have hj2 : (j + 2) % r.length < r.length := Nat.mod_lt _ (by omega)
  have only := fun {k : Nat} (hk : k < r.length) {x : Point} (hx : on (at_ r k) (at_ r (k + 1)) x = true) (hy : on p q x = true) => seg_only (j := j) h s0 s1 t0 t1 ne hk hx (by rw [← ep, ← eq]; exact hy)
  rw [winds_sum, winds_sum, ← sumTo_sub]
  generalize hd1 : (if s = 1 ∨ t = 1 then change p q (at_ r (j + 2)) (at_ r (j + 3)) else 0) = d1
  generalize hd0 : (if s = 0 ∨ t = 0 then change p q (at_ r j) (at_ r (j + 1)) else 0) = d0
  have each : ∀ k, k < r.length → passes p (at_ r k, at_ r (k + 1)) - passes q (at_ r k, at_ r (k + 1)) =
      (strip p q (at_ r (k + 1)) - strip p q (at_ r k)) + ((if k = (j + 2) % r.length then d1 else 0) + (if k = j % r.length then d0 else 0)) := by
    intro k hk
    by_cases k1 : k = (j + 1) % r.length
    · have n1 : ¬ k = (j + 2) % r.length := by omega
      have n2 : ¬ k = j % r.length := by omega
      rw [if_neg n1, if_neg n2]
      have ea : at_ r k = at_ r (j + 1) := by rw [k1, at_mod]
      have eb : at_ r (k + 1) = at_ r (j + 2) := by rw [k1, at_step]
      rw [ea, eb]
      obtain ⟨sp, _, _⟩ := side_same (at_ r (j + 1)) (at_ r (j + 2)) s t
      obtain ⟨sq, _, _⟩ := side_same (at_ r (j + 1)) (at_ r (j + 2)) t s
      obtain ⟨_, sa, sb⟩ := side_same (at_ r (j + 1)) (at_ r (j + 2)) s t
      rw [← ep] at sp sa sb
      rw [← eq] at sq sa sb
      rw [passes_on sp, passes_on sq, strip_zero sa, strip_zero sb]
      rfl
    · by_cases k2 : k = (j + 2) % r.length
      · have n2 : ¬ k = j % r.length := by omega
        rw [if_pos k2, if_neg n2, ← hd1]
        have ea : at_ r k = at_ r (j + 2) := by rw [k2, at_mod]
        have eb : at_ r (k + 1) = at_ r (j + 3) := by rw [k2, at_step]
        by_cases c : s = 1 ∨ t = 1
        · rw [if_pos c, ea, eb]
          unfold change
          omega
        · rw [if_neg c]
          have := change_up (h.apart k) hpq fun x hx hy => by
            rcases only hk hx hy with w | ⟨_, w⟩ | ⟨w, _⟩
            · exact k1 w
            · exact c w
            · exact n2 w
          omega
      · by_cases k3 : k = j % r.length
        · rw [if_neg k2, if_pos k3, ← hd0]
          have ea : at_ r k = at_ r j := by rw [k3, at_mod]
          have eb : at_ r (k + 1) = at_ r (j + 1) := by rw [k3, at_step]
          by_cases c : s = 0 ∨ t = 0
          · rw [if_pos c, ea, eb]
            unfold change
            omega
          · rw [if_neg c]
            have := change_up (h.apart k) hpq fun x hx hy => by
              rcases only hk hx hy with w | ⟨w, _⟩ | ⟨_, w⟩
              · exact k1 w
              · exact k2 w
              · exact c w
            omega
        · rw [if_neg k2, if_neg k3]
          have := change_up (h.apart k) hpq fun x hx hy => by
            rcases only hk hx hy with w | ⟨w, _⟩ | ⟨w, _⟩
            · exact k1 w
            · exact k2 w
            · exact k3 w
          omega
  rw [sumTo_congr each, sumTo_add (fun k => strip p q (at_ r (k + 1)) - strip p q (at_ r k)), sumTo_tel (fun k => strip p q (at_ r k)), sumTo_add (fun k => if k = (j + 2) % r.length then d1 else 0), sumTo_one, sumTo_one, if_pos hj2, if_pos hj0]
  rw [at_all]
  omega
/-- level along a part of an edge -/
theorem walk_flat (h : RowFine r) {s t : Rat} (s0 : 0 ≤ s) (s1 : s ≤ 1) (t0 : 0 ≤ t) (t1 : t ≤ 1) (ne : s ≠ t) {p q : Point} (ep : p = part (at_ r (j + 1)) (at_ r (j + 2)) s) (eq : q = part (at_ r (j + 1)) (at_ r (j + 2)) t) (hpq : p.2 = q.2) :
    winds r p - winds r q = (if s = 1 ∨ t = 1 then passes p (at_ r (j + 2), at_ r (j + 3)) - passes q (at_ r (j + 2), at_ r (j + 3)) else 0) + (if s = 0 ∨ t = 0 then passes p (at_ r j, at_ r (j + 1)) - passes q (at_ r j, at_ r (j + 1)) else 0) := by
  have npq : p ≠ q := fun z => ne (part_inj (h.apart (j + 1)) (by rw [← ep, ← eq]; exact z))
  have hn := h.three
  obtain ⟨m1, m2, m3⟩ := three_mod (j := j) hn
  have hj0 : j % r.length < r.length := Nat.mod_lt _ (by omega)
  have hj2 : (j + 2) % r.length < r.length := Nat.mod_lt _ (by omega)
  have only := fun {k : Nat} (hk : k < r.length) {x : Point} (hx : on (at_ r k) (at_ r (k + 1)) x = true) (hy : on p q x = true) => seg_only (j := j) h s0 s1 t0 t1 ne hk hx (by rw [← ep, ← eq]; exact hy)
  rw [winds_sum, winds_sum, ← sumTo_sub]
  generalize hd1 : (if s = 1 ∨ t = 1 then passes p (at_ r (j + 2), at_ r (j + 3)) - passes q (at_ r (j + 2), at_ r (j + 3)) else 0) = d1
  generalize hd0 : (if s = 0 ∨ t = 0 then passes p (at_ r j, at_ r (j + 1)) - passes q (at_ r j, at_ r (j + 1)) else 0) = d0
  have each : ∀ k, k < r.length → passes p (at_ r k, at_ r (k + 1)) - passes q (at_ r k, at_ r (k + 1)) = (if k = (j + 2) % r.length then d1 else 0) + (if k = j % r.length then d0 else 0) := by
    intro k hk
    by_cases k1 : k = (j + 1) % r.length
    · have n1 : ¬ k = (j + 2) % r.length := by omega
      have n2 : ¬ k = j % r.length := by omega
      rw [if_neg n1, if_neg n2]
      have ea : at_ r k = at_ r (j + 1) := by rw [k1, at_mod]
      have eb : at_ r (k + 1) = at_ r (j + 2) := by rw [k1, at_step]
      rw [ea, eb]
      obtain ⟨sp, _, _⟩ := side_same (at_ r (j + 1)) (at_ r (j + 2)) s t
      obtain ⟨sq, _, _⟩ := side_same (at_ r (j + 1)) (at_ r (j + 2)) t s
      rw [← ep] at sp
      rw [← eq] at sq
      rw [passes_on sp, passes_on sq]
      rfl
    · by_cases k2 : k = (j + 2) % r.length
      · have n2 : ¬ k = j % r.length := by omega
        rw [if_pos k2, if_neg n2, ← hd1]
        have ea : at_ r k = at_ r (j + 2) := by rw [k2, at_mod]
        have eb : at_ r (k + 1) = at_ r (j + 3) := by rw [k2, at_step]
        by_cases c : s = 1 ∨ t = 1
        · rw [if_pos c, ea, eb]
          omega
        · rw [if_neg c]
          have := change_flat (h.apart k) hpq npq fun x hx hy => by
            rcases only hk hx hy with w | ⟨_, w⟩ | ⟨w, _⟩
            · exact k1 w
            · exact c w
            · exact n2 w
          omega
      · by_cases k3 : k = j % r.length
        · rw [if_neg k2, if_pos k3, ← hd0]
          have ea : at_ r k = at_ r j := by rw [k3, at_mod]
          have eb : at_ r (k + 1) = at_ r (j + 1) := by rw [k3, at_step]
          by_cases c : s = 0 ∨ t = 0
          · rw [if_pos c, ea, eb]
            omega
          · rw [if_neg c]
            have := change_flat (h.apart k) hpq npq fun x hx hy => by
              rcases only hk hx hy with w | ⟨w, _⟩ | ⟨_, w⟩
              · exact k1 w
              · exact k2 w
              · exact c w
            omega
        · rw [if_neg k2, if_neg k3]
          have := change_flat (h.apart k) hpq npq fun x hx hy => by
            rcases only hk hx hy with w | ⟨w, _⟩ | ⟨w, _⟩
            · exact k1 w
            · exact k2 w
            · exact k3 w
          omega
  rw [sumTo_congr each, sumTo_add (fun k => if k = (j + 2) % r.length then d1 else 0), sumTo_one, sumTo_one, if_pos hj2, if_pos hj0]
end
end SR
set_option Elab.async false
set_option linter.unusedVariables false
/-! # How often a row goes round a point: one number for all its left sides -/
namespace SR
open SeamNum SeamPoly SeamPattern

/-- an edge's left side less its first corner -/
def alpha (u P Q : Point) : Int := if P.2 < Q.2 then 1 - one (P.2 < u.2 ∧ side P Q u < 0) else if Q.2 < P.2 then one (u.2 ≤ P.2 ∧ 0 < side P Q u) else if P.1 < Q.1 then 0 else 1 - one (P.2 < u.2)
/-- less its second -/
def beta (P Q w : Point) : Int := if P.2 < Q.2 then 1 - one (w.2 ≤ Q.2 ∧ side P Q w < 0) else if Q.2 < P.2 then one (Q.2 < w.2 ∧ 0 < side P Q w) else if P.1 < Q.1 then one (Q.2 < w.2) else 1
/-- less a point in its midst -/
def eps (P Q : Point) : Int := if P.2 < Q.2 then 1 else if Q.2 < P.2 then 0 else if P.1 < Q.1 then 0 else 1
theorem one_cases (P : Prop) [Decidable P] : one P = 0 ∨ one P = 1 := by
  unfold one
  split
  · exact Or.inr rfl
  · exact Or.inl rfl
theorem one_pos {P : Prop} [Decidable P] (h : P) : one P = 1 := by unfold one; rw [if_pos h]
theorem one_neg {P : Prop} [Decidable P] (h : ¬ P) : one P = 0 := by unfold one; rw [if_neg h]
theorem alpha_cases (u P Q : Point) : alpha u P Q = 0 ∨ alpha u P Q = 1 := by
  unfold alpha
  split
  · have := one_cases (P.2 < u.2 ∧ side P Q u < 0)
    omega
  · split
    · exact one_cases _
    · split
      · exact Or.inl rfl
      · have := one_cases (P.2 < u.2)
        omega
theorem side_round (a b c : Point) : side b c a = side a b c := by
  unfold side cross less
  simp only
  grind
/-- **at a corner both agree** -/
theorem beta_alpha {P Q w : Point} (h1 : P ≠ Q) (h2 : Q ≠ w) (g : goesBack P Q w = false) : beta P Q w = alpha P Q w := by
  have g' : side P Q w ≠ 0 ∨ 0 < dot (less Q P) (less w Q) := by
    unfold goesBack at g
    by_cases z : side P Q w = 0
    · right
      rw [z] at g
      have z0 : ((0 : Rat) == 0) = true := beq_self_eq_true _
      rw [z0, Bool.true_and] at g
      have := of_decide_eq_false g
      grind
    · exact Or.inl z
  have hr := side_round P Q w
  obtain ⟨px, py⟩ := P
  obtain ⟨qx, qy⟩ := Q
  obtain ⟨wx, wy⟩ := w
  have n1 : ¬ (px = qx ∧ py = qy) := fun z => h1 (by rw [z.1, z.2])
  have n2 : ¬ (qx = wx ∧ qy = wy) := fun z => h2 (by rw [z.1, z.2])
  unfold beta alpha
  rw [hr]
  have es : side (px, py) (qx, qy) (wx, wy) = (qx - px) * (wy - py) - (qy - py) * (wx - px) := rfl
  have es2 : side (px, py) (qx, qy) (wx, wy) = (qx - px) * (wy - qy) - (qy - py) * (wx - qx) := by rw [es]; grind
  have ed : dot (less (qx, qy) (px, py)) (less (wx, wy) (qx, qy)) = (qx - px) * (wx - qx) + (qy - py) * (wy - qy) := rfl
  rw [ed] at g'
  generalize side (px, py) (qx, qy) (wx, wy) = S at *
  simp only
  rcases three py qy with a | a | a
  · rw [if_pos a]
    rcases three qy wy with b | b | b
    · rw [if_pos b, one_neg (by grind), one_neg (by grind)]
    · -- up, then level
      rw [if_neg (by grind), if_neg (by grind)]
      by_cases c : qx < wx
      · rw [if_pos c]
        have := Rat.mul_pos (by grind : 0 < qy - py) (by grind : 0 < wx - qx)
        have hs : S < 0 := by subst b; grind
        rw [one_pos ⟨by grind, hs⟩]
        rfl
      · rw [if_neg c]
        have := Rat.mul_pos (by grind : 0 < qy - py) (by grind : 0 < qx - wx)
        have hs : 0 < S := by subst b; grind
        rw [one_neg (by grind), one_neg (by grind)]
    · -- up, then down
      rw [if_neg (by grind), if_pos b]
      rcases three S 0 with c | c | c
      · rw [one_pos ⟨by grind, c⟩, one_neg (by grind)]
        rfl
      · exfalso
        rcases g' with w | w
        · exact w c
        · rw [c] at es2
          -- parallel, the other way
          have k1 := Rat.mul_pos (by grind : 0 < qy - py) (by grind : 0 < qy - wy)
          have e5 : (qy - py) * (wx - qx) = (qx - px) * (wy - qy) := by grind
          have e6 : (qy - py) * ((qx - px) * (wx - qx)) = ((qx - px) * (qx - px)) * (wy - qy) := by grind
          have k2 := Rat.mul_nonneg (sq_nonneg (qx - px)) (by grind : 0 ≤ qy - wy)
          have k3 : (qy - py) * ((qx - px) * (wx - qx)) ≤ 0 := by rw [e6]; grind
          have k4 : (qx - px) * (wx - qx) ≤ 0 := by
            apply cancel_le (k := qy - py) (by grind)
            rw [Rat.mul_zero]
            exact k3
          grind
      · rw [one_neg (by grind), one_pos ⟨by grind, c⟩]
        rfl
  · subst a
    rw [if_neg (by grind), if_neg (by grind)]
    by_cases d : px < qx
    · rw [if_pos d]
      rcases three py wy with b | b | b
      · rw [if_pos b, one_pos b, one_neg (by grind)]
        rfl
      · rw [if_neg (by grind), if_neg (by grind), one_neg (by grind)]
        subst b
        by_cases c : qx < wx
        · rw [if_pos c]
        · exfalso
          have := Rat.mul_pos (by grind : 0 < qx - px) (by grind : 0 < qx - wx)
          grind
      · rw [if_neg (by grind), if_pos b, one_neg (by grind)]
        have := Rat.mul_pos (by grind : 0 < qx - px) (by grind : 0 < py - wy)
        rw [one_neg (by grind)]
    · rw [if_neg d]
      rcases three py wy with b | b | b
      · rw [if_pos b, one_neg (by grind)]
        rfl
      · rw [if_neg (by grind), if_neg (by grind)]
        subst b
        by_cases c : qx < wx
        · exfalso
          have := Rat.mul_pos (by grind : 0 < px - qx) (by grind : 0 < wx - qx)
          grind
        · rw [if_neg c, one_neg (by grind)]
          rfl
      · rw [if_neg (by grind), if_pos b]
        have := Rat.mul_pos (by grind : 0 < px - qx) (by grind : 0 < py - wy)
        rw [one_pos ⟨by grind, by grind⟩]
  · rw [if_neg (by grind), if_pos a]
    rcases three qy wy with b | b | b
    · rw [if_pos b]
      rcases three S 0 with c | c | c
      · rw [one_neg (by grind), one_pos ⟨by grind, c⟩]
        rfl
      · exfalso
        rcases g' with w | w
        · exact w c
        · rw [c] at es2
          have k1 := Rat.mul_pos (by grind : 0 < py - qy) (by grind : 0 < wy - qy)
          have e6 : (py - qy) * ((qx - px) * (wx - qx)) = -(((qx - px) * (qx - px)) * (wy - qy)) := by grind
          have k2 := Rat.mul_nonneg (sq_nonneg (qx - px)) (by grind : 0 ≤ wy - qy)
          have k3 : (py - qy) * ((qx - px) * (wx - qx)) ≤ 0 := by rw [e6]; grind
          have k4 : (qx - px) * (wx - qx) ≤ 0 := by
            apply cancel_le (k := py - qy) (by grind)
            rw [Rat.mul_zero]
            exact k3
          grind
      · rw [one_pos ⟨b, c⟩, one_neg (by grind)]
        rfl
    · rw [if_neg (by grind), if_neg (by grind), one_neg (by grind)]
      subst b
      by_cases c : qx < wx
      · rw [if_pos c]
      · rw [if_neg c, one_pos (by grind)]
        rfl
    · rw [if_neg (by grind), if_pos b, one_neg (by grind), one_neg (by grind)]

section
variable {r : Row} {j : Nat}
theorem side_part1 (P Q z : Point) (t : Rat) : side P (part P Q t) z = t * side P Q z := by
  unfold side cross part plus times less
  simp only
  grind
theorem side_part2 (P Q z : Point) (t : Rat) : side (part P Q t) Q z = (1 - t) * side P Q z := by
  unfold side cross part plus times less
  simp only
  grind
theorem part_y (P Q : Point) (t : Rat) : (part P Q t).2 = P.2 + t * (Q.2 - P.2) := rfl
theorem part_x (P Q : Point) (t : Rat) : (part P Q t).1 = P.1 + t * (Q.1 - P.1) := rfl
theorem neg_times {t x : Rat} (h : 0 < t) : t * x < 0 ↔ x < 0 := by
  rw [mul_lt]
  grind
theorem pos_times {t x : Rat} (h : 0 < t) : 0 < t * x ↔ 0 < x := by
  have := neg_times (x := -x) h
  grind
/-- from its first corner into its midst -/
theorem half_first (h : RowFine r) {t : Rat} (t0 : 0 < t) (t1 : t < 1) : winds r (at_ r (j + 1)) + alpha (at_ r j) (at_ r (j + 1)) (at_ r (j + 2)) = winds r (part (at_ r (j + 1)) (at_ r (j + 2)) t) + eps (at_ r (j + 1)) (at_ r (j + 2)) := by
  have ap := h.apart (j + 1)
  generalize hx : part (at_ r (j + 1)) (at_ r (j + 2)) t = x
  have xy : x.2 = (at_ r (j + 1)).2 + t * ((at_ r (j + 2)).2 - (at_ r (j + 1)).2) := by rw [← hx]; rfl
  have xx : x.1 = (at_ r (j + 1)).1 + t * ((at_ r (j + 2)).1 - (at_ r (j + 1)).1) := by rw [← hx]; rfl
  have c1 : ¬ ((0 : Rat) = 1 ∨ t = 1) := by grind
  have c1' : ¬ (t = 1 ∨ (0 : Rat) = 1) := by grind
  have c0 : (0 : Rat) = 0 ∨ t = 0 := Or.inl rfl
  have c0' : t = 0 ∨ (0 : Rat) = 0 := Or.inr rfl
  have eP : at_ r (j + 1) = part (at_ r (j + 1)) (at_ r (j + 2)) 0 := (part_zero _ _).symm
  have sx : ∀ u, side (at_ r (j + 1)) x u = t * side (at_ r (j + 1)) (at_ r (j + 2)) u := fun u => by rw [← hx]; exact side_part1 _ _ _ _
  unfold alpha eps
  rcases three (at_ r (j + 1)).2 (at_ r (j + 2)).2 with a | a | a
  · rw [if_pos a, if_pos a]
    have tp := Rat.mul_pos t0 (by grind : 0 < (at_ r (j + 2)).2 - (at_ r (j + 1)).2)
    have hup : (at_ r (j + 1)).2 < x.2 := by grind
    have W := walk_up (j := j) h (s := 0) (t := t) (by decide) (by decide) (by grind) (by grind) eP hx.symm hup
    rw [if_neg c1, if_pos c0] at W
    have D : change (at_ r (j + 1)) x (at_ r j) (at_ r (j + 1)) = one ((at_ r (j + 1)).2 < (at_ r j).2 ∧ side (at_ r (j + 1)) (at_ r (j + 2)) (at_ r j) < 0) := by
      have es : side (at_ r (j + 1)) x (at_ r j) < 0 ↔ side (at_ r (j + 1)) (at_ r (j + 2)) (at_ r j) < 0 := by rw [sx]; exact neg_times t0
      unfold change
      rw [passes_on (side_on (on_end _ _)), strip_zero (side_on (on_start (at_ r (j + 1)) x))]
      generalize at_ r (j + 1) = P at *
      generalize at_ r j = u at *
      generalize at_ r (j + 2) = Q at *
      by_cases b : u.2 ≤ P.2
      · have p0 : passes x (u, P) = 0 := passes_no b (by grind)
        have s0 : strip P x u = 0 := by unfold strip; rw [if_neg (by grind)]
        rw [p0, s0, one_neg (by grind)]
        rfl
      · by_cases c : u.2 ≤ x.2
        · have p0 : passes x (u, P) = 0 := by
            have := passes_turn x P u
            rw [this, passes_no (by grind) (by grind)]
            rfl
          have s0 : strip P x u = one (P.2 < u.2 ∧ side P Q u < 0) := by
            unfold strip one
            by_cases d : side P Q u < 0
            · rw [if_pos ⟨by grind, c, es.mpr d⟩, if_pos ⟨by grind, d⟩]
            · rw [if_neg (fun z => d (es.mp z.2.2)), if_neg (fun z => d z.2)]
          rw [p0, s0]
          omega
        · have p0 : passes x (u, P) = -one (P.2 < u.2 ∧ side P Q u < 0) := by
            have := passes_turn x P u
            rw [this, passes_up (by grind) (by grind)]
            congr 1
            apply one_congr
            have e1 : side P u x = -side P x u := by
              unfold side cross less
              simp only
              grind
            rw [e1]
            constructor
            · intro z
              exact ⟨by grind, es.mp (by grind)⟩
            · intro z
              have := es.mpr z.2
              grind
          have s0 : strip P x u = 0 := by unfold strip; rw [if_neg (by grind)]
          rw [p0, s0]
          omega
    omega
  · -- level
    have na : ¬ (at_ r (j + 1)).2 < (at_ r (j + 2)).2 := by grind
    have nb : ¬ (at_ r (j + 2)).2 < (at_ r (j + 1)).2 := by grind
    simp only [if_neg na, if_neg nb]
    have tz : t * ((at_ r (j + 2)).2 - (at_ r (j + 1)).2) = 0 := by rw [a]; grind
    have hl : (at_ r (j + 1)).2 = x.2 := by grind
    have W := walk_flat (j := j) h (s := 0) (t := t) (by decide) (by decide) (by grind) (by grind) (by grind) eP hx.symm hl
    rw [if_neg c1, if_pos c0, passes_on (side_on (on_end _ _))] at W
    have ne1 : (at_ r (j + 1)).1 ≠ (at_ r (j + 2)).1 := fun z => ap (Prod.ext z a)
    have D : passes x (at_ r j, at_ r (j + 1)) = -one ((at_ r (j + 1)).2 < (at_ r j).2 ∧ (at_ r (j + 2)).1 < (at_ r (j + 1)).1) := by
      generalize at_ r (j + 1) = P at *
      generalize at_ r j = u at *
      generalize at_ r (j + 2) = Q at *
      by_cases b : u.2 ≤ P.2
      · rw [passes_no b (by grind), one_neg (by grind)]
        rfl
      · have := passes_turn x P u
        rw [this, passes_up (by grind) (by grind)]
        congr 1
        apply one_congr
        have e1 : side P u x = (u.2 - P.2) * (P.1 - x.1) := by
          unfold side cross less
          simp only
          grind
        rw [e1, pos_times (by grind)]
        have e2 : P.1 - x.1 = t * (P.1 - Q.1) := by grind
        rw [e2, pos_times t0]
        grind
    by_cases c : (at_ r (j + 1)).1 < (at_ r (j + 2)).1
    · rw [if_pos c, if_pos c]
      have nn : ¬ ((at_ r (j + 1)).2 < (at_ r j).2 ∧ (at_ r (j + 2)).1 < (at_ r (j + 1)).1) := fun z => by have := z.2; grind
      rw [one_neg nn] at D
      omega
    · rw [if_neg c, if_neg c]
      have := one_congr (P := (at_ r (j + 1)).2 < (at_ r j).2 ∧ (at_ r (j + 2)).1 < (at_ r (j + 1)).1) (Q := (at_ r (j + 1)).2 < (at_ r j).2) ⟨fun z => z.1, fun z => ⟨z, (three (at_ r (j + 1)).1 (at_ r (j + 2)).1).elim (fun w => absurd w c) fun w => w.elim (fun v => absurd v ne1) fun v => v⟩⟩
      omega
  · -- down
    rw [if_neg (by grind), if_pos a, if_neg (by grind), if_pos a]
    have tp := Rat.mul_pos t0 (by grind : 0 < (at_ r (j + 1)).2 - (at_ r (j + 2)).2)
    have hup : x.2 < (at_ r (j + 1)).2 := by grind
    have W := walk_up (j := j) h (s := t) (t := 0) (by grind) (by grind) (by decide) (by decide) hx.symm eP hup
    rw [if_neg c1', if_pos c0'] at W
    have D : change x (at_ r (j + 1)) (at_ r j) (at_ r (j + 1)) = one ((at_ r j).2 ≤ (at_ r (j + 1)).2 ∧ 0 < side (at_ r (j + 1)) (at_ r (j + 2)) (at_ r j)) := by
      have es : side x (at_ r (j + 1)) (at_ r j) < 0 ↔ 0 < side (at_ r (j + 1)) (at_ r (j + 2)) (at_ r j) := by
        rw [side_swap, sx]
        have := pos_times (x := side (at_ r (j + 1)) (at_ r (j + 2)) (at_ r j)) t0
        grind
      unfold change
      rw [passes_on (side_on (on_end (at_ r j) (at_ r (j + 1)))), strip_zero (side_on (on_end x (at_ r (j + 1))))]
      generalize at_ r (j + 1) = P at *
      generalize at_ r j = u at *
      generalize at_ r (j + 2) = Q at *
      by_cases b : u.2 ≤ x.2
      · have p0 : passes x (u, P) = one (u.2 ≤ P.2 ∧ 0 < side P Q u) := by
          rw [passes_up b hup]
          apply one_congr
          have e1 : side u P x = -side x P u := by
            unfold side cross less
            simp only
            grind
          rw [e1]
          constructor
          · intro z
            exact ⟨by grind, es.mp (by grind)⟩
          · intro z
            have := es.mpr z.2
            grind
        have s0 : strip x P u = 0 := by unfold strip; rw [if_neg (by grind)]
        rw [p0, s0]
        omega
      · by_cases c : u.2 ≤ P.2
        · have p0 : passes x (u, P) = 0 := passes_no c (by grind)
          have s0 : strip x P u = one (u.2 ≤ P.2 ∧ 0 < side P Q u) := by
            unfold strip one
            by_cases d : 0 < side P Q u
            · rw [if_pos ⟨by grind, c, es.mpr d⟩, if_pos ⟨c, d⟩]
            · rw [if_neg (fun z => d (es.mp z.2.2)), if_neg (fun z => d z.2)]
          rw [p0, s0]
          omega
        · have p0 : passes x (u, P) = 0 := by
            have := passes_turn x P u
            rw [this, passes_no (by grind) (by grind)]
            rfl
          have s0 : strip x P u = 0 := by unfold strip; rw [if_neg (by grind)]
          rw [p0, s0, one_neg (by grind)]
          rfl
    omega
/-- from its midst to its second -/
theorem half_second (h : RowFine r) {t : Rat} (t0 : 0 < t) (t1 : t < 1) : winds r (part (at_ r (j + 1)) (at_ r (j + 2)) t) + eps (at_ r (j + 1)) (at_ r (j + 2)) = winds r (at_ r (j + 2)) + beta (at_ r (j + 1)) (at_ r (j + 2)) (at_ r (j + 3)) := by
  have ap := h.apart (j + 1)
  generalize hx : part (at_ r (j + 1)) (at_ r (j + 2)) t = x
  have xy : x.2 = (at_ r (j + 1)).2 + t * ((at_ r (j + 2)).2 - (at_ r (j + 1)).2) := by rw [← hx]; rfl
  have xx : x.1 = (at_ r (j + 1)).1 + t * ((at_ r (j + 2)).1 - (at_ r (j + 1)).1) := by rw [← hx]; rfl
  have t2 : 0 < 1 - t := by grind
  have c1 : t = 1 ∨ (1 : Rat) = 1 := Or.inr rfl
  have c1' : (1 : Rat) = 1 ∨ t = 1 := Or.inl rfl
  have c0 : ¬ (t = 0 ∨ (1 : Rat) = 0) := by grind
  have c0' : ¬ ((1 : Rat) = 0 ∨ t = 0) := by grind
  have eQ : at_ r (j + 2) = part (at_ r (j + 1)) (at_ r (j + 2)) 1 := (part_one _ _).symm
  have sx : ∀ u, side x (at_ r (j + 2)) u = (1 - t) * side (at_ r (j + 1)) (at_ r (j + 2)) u := fun u => by rw [← hx]; exact side_part2 _ _ _ _
  unfold beta eps
  rcases three (at_ r (j + 1)).2 (at_ r (j + 2)).2 with a | a | a
  · rw [if_pos a, if_pos a]
    have tp := Rat.mul_pos t2 (by grind : 0 < (at_ r (j + 2)).2 - (at_ r (j + 1)).2)
    have hup : x.2 < (at_ r (j + 2)).2 := by grind
    have W := walk_up (j := j) h (s := t) (t := 1) (by grind) (by grind) (by decide) (by decide) hx.symm eQ hup
    rw [if_pos c1, if_neg c0] at W
    have D : change x (at_ r (j + 2)) (at_ r (j + 2)) (at_ r (j + 3)) = -one ((at_ r (j + 3)).2 ≤ (at_ r (j + 2)).2 ∧ side (at_ r (j + 1)) (at_ r (j + 2)) (at_ r (j + 3)) < 0) := by
      have es : side x (at_ r (j + 2)) (at_ r (j + 3)) < 0 ↔ side (at_ r (j + 1)) (at_ r (j + 2)) (at_ r (j + 3)) < 0 := by rw [sx]; exact neg_times t2
      unfold change
      rw [passes_on (side_on (on_start (at_ r (j + 2)) (at_ r (j + 3)))), strip_zero (side_on (on_end x (at_ r (j + 2))))]
      generalize at_ r (j + 1) = P at *
      generalize at_ r (j + 3) = w at *
      generalize at_ r (j + 2) = Q at *
      by_cases b : w.2 ≤ x.2
      · have p0 : passes x (Q, w) = -one (w.2 ≤ Q.2 ∧ side P Q w < 0) := by
          have := passes_turn x w Q
          rw [this, passes_up b hup]
          congr 1
          apply one_congr
          have e1 : side w Q x = -side x Q w := by
            unfold side cross less
            simp only
            grind
          rw [e1]
          constructor
          · intro z
            exact ⟨by grind, es.mp (by grind)⟩
          · intro z
            have := es.mpr z.2
            grind
        have s0 : strip x Q w = 0 := by unfold strip; rw [if_neg (by grind)]
        rw [p0, s0]
        omega
      · by_cases c : w.2 ≤ Q.2
        · have p0 : passes x (Q, w) = 0 := by
            have := passes_turn x w Q
            rw [this, passes_no c (by grind)]
            rfl
          have s0 : strip x Q w = one (w.2 ≤ Q.2 ∧ side P Q w < 0) := by
            unfold strip one
            by_cases d : side P Q w < 0
            · rw [if_pos ⟨by grind, c, es.mpr d⟩, if_pos ⟨c, d⟩]
            · rw [if_neg (fun z => d (es.mp z.2.2)), if_neg (fun z => d z.2)]
          rw [p0, s0]
          omega
        · have p0 : passes x (Q, w) = 0 := passes_no (by grind) (by grind)
          have s0 : strip x Q w = 0 := by unfold strip; rw [if_neg (by grind)]
          rw [p0, s0, one_neg (by grind)]
          rfl
    omega
  · have na : ¬ (at_ r (j + 1)).2 < (at_ r (j + 2)).2 := by grind
    have nb : ¬ (at_ r (j + 2)).2 < (at_ r (j + 1)).2 := by grind
    simp only [if_neg na, if_neg nb]
    have tz : t * ((at_ r (j + 2)).2 - (at_ r (j + 1)).2) = 0 := by rw [a]; grind
    have hl : x.2 = (at_ r (j + 2)).2 := by grind
    have W := walk_flat (j := j) h (s := t) (t := 1) (by grind) (by grind) (by decide) (by decide) (by grind) hx.symm eQ hl
    rw [if_pos c1, if_neg c0, passes_on (side_on (on_start (at_ r (j + 2)) (at_ r (j + 3))))] at W
    have ne1 : (at_ r (j + 1)).1 ≠ (at_ r (j + 2)).1 := fun z => ap (Prod.ext z a)
    have D : passes x (at_ r (j + 2), at_ r (j + 3)) = one ((at_ r (j + 2)).2 < (at_ r (j + 3)).2 ∧ (at_ r (j + 1)).1 < (at_ r (j + 2)).1) := by
      generalize at_ r (j + 1) = P at *
      generalize at_ r (j + 3) = w at *
      generalize at_ r (j + 2) = Q at *
      by_cases b : w.2 ≤ Q.2
      · have := passes_turn x w Q
        rw [this, passes_no b (by grind), one_neg (by grind)]
        rfl
      · rw [passes_up (by grind) (by grind)]
        apply one_congr
        have e1 : side Q w x = (w.2 - Q.2) * (Q.1 - x.1) := by
          unfold side cross less
          simp only
          grind
        rw [e1, pos_times (by grind)]
        have e2 : Q.1 - x.1 = (1 - t) * (Q.1 - P.1) := by grind
        rw [e2, pos_times t2]
        grind
    by_cases c : (at_ r (j + 1)).1 < (at_ r (j + 2)).1
    · rw [if_pos c, if_pos c]
      have := one_congr (P := (at_ r (j + 2)).2 < (at_ r (j + 3)).2 ∧ (at_ r (j + 1)).1 < (at_ r (j + 2)).1) (Q := (at_ r (j + 2)).2 < (at_ r (j + 3)).2) ⟨fun z => z.1, fun z => ⟨z, c⟩⟩
      omega
    · rw [if_neg c, if_neg c]
      have nn : ¬ ((at_ r (j + 2)).2 < (at_ r (j + 3)).2 ∧ (at_ r (j + 1)).1 < (at_ r (j + 2)).1) := fun z => c z.2
      rw [one_neg nn] at D
      omega
  · rw [if_neg (by grind), if_pos a, if_neg (by grind), if_pos a]
    have tp := Rat.mul_pos t2 (by grind : 0 < (at_ r (j + 1)).2 - (at_ r (j + 2)).2)
    have hup : (at_ r (j + 2)).2 < x.2 := by grind
    have W := walk_up (j := j) h (s := 1) (t := t) (by decide) (by decide) (by grind) (by grind) eQ hx.symm hup
    rw [if_pos c1', if_neg c0'] at W
    have D : change (at_ r (j + 2)) x (at_ r (j + 2)) (at_ r (j + 3)) = -one ((at_ r (j + 2)).2 < (at_ r (j + 3)).2 ∧ 0 < side (at_ r (j + 1)) (at_ r (j + 2)) (at_ r (j + 3))) := by
      have es : side (at_ r (j + 2)) x (at_ r (j + 3)) < 0 ↔ 0 < side (at_ r (j + 1)) (at_ r (j + 2)) (at_ r (j + 3)) := by
        rw [side_swap, sx]
        have := pos_times (x := side (at_ r (j + 1)) (at_ r (j + 2)) (at_ r (j + 3))) t2
        grind
      unfold change
      rw [passes_on (side_on (on_start (at_ r (j + 2)) (at_ r (j + 3)))), strip_zero (side_on (on_start (at_ r (j + 2)) x))]
      generalize at_ r (j + 1) = P at *
      generalize at_ r (j + 3) = w at *
      generalize at_ r (j + 2) = Q at *
      by_cases b : w.2 ≤ Q.2
      · have p0 : passes x (Q, w) = 0 := by
          have := passes_turn x w Q
          rw [this, passes_no b (by grind)]
          rfl
        have s0 : strip Q x w = 0 := by unfold strip; rw [if_neg (by grind)]
        rw [p0, s0, one_neg (by grind)]
        rfl
      · by_cases c : w.2 ≤ x.2
        · have p0 : passes x (Q, w) = 0 := passes_no (by grind) (by grind)
          have s0 : strip Q x w = one (Q.2 < w.2 ∧ 0 < side P Q w) := by
            unfold strip one
            by_cases d : 0 < side P Q w
            · rw [if_pos ⟨by grind, c, es.mpr d⟩, if_pos ⟨by grind, d⟩]
            · rw [if_neg (fun z => d (es.mp z.2.2)), if_neg (fun z => d z.2)]
          rw [p0, s0]
          omega
        · have p0 : passes x (Q, w) = one (Q.2 < w.2 ∧ 0 < side P Q w) := by
            rw [passes_up (by grind) (by grind)]
            apply one_congr
            have e1 : side Q w x = -side Q x w := by
              unfold side cross less
              simp only
              grind
            rw [e1]
            constructor
            · intro z
              exact ⟨by grind, es.mp (by grind)⟩
            · intro z
              have := es.mpr z.2
              grind
          have s0 : strip Q x w = 0 := by unfold strip; rw [if_neg (by grind)]
          rw [p0, s0]
          omega
    omega
/-- **one number for all left sides** -/
theorem left_same (h : RowFine r) : winds r (at_ r (j + 1)) + alpha (at_ r j) (at_ r (j + 1)) (at_ r (j + 2)) = winds r (at_ r (j + 2)) + alpha (at_ r (j + 1)) (at_ r (j + 2)) (at_ r (j + 3)) := by
  have t0 : (0 : Rat) < 1 / 2 := by decide +kernel
  have t1 : (1 / 2 : Rat) < 1 := by decide +kernel
  rw [half_first h t0 t1, half_second h t0 t1, beta_alpha (h.apart (j + 1)) (h.apart (j + 2)) (h.ahead (j + 1))]
end
def leftOf (r : Row) : Int := winds r (at_ r 1) + alpha (at_ r 0) (at_ r 1) (at_ r 2)
theorem left_all {r : Row} (h : RowFine r) : ∀ j, winds r (at_ r (j + 1)) + alpha (at_ r j) (at_ r (j + 1)) (at_ r (j + 2)) = leftOf r
  | 0 => rfl
  | j + 1 => by rw [← left_same h]; exact left_all h j
end SR
set_option Elab.async false
set_option linter.unusedVariables false
/-! # How often a row goes round a point: never more than once -/
namespace SR
open SeamNum SeamPoly SeamPattern

theorem most_of (F : Nat → Rat) : ∀ n, 0 < n → ∃ m, m < n ∧ ∀ k, k < n → F k ≤ F m
  | 0, h => absurd h (by omega)
  | 1, _ => ⟨0, by omega, fun k hk => by have : k = 0 := by omega
                                         subst this; exact Rat.le_refl⟩
  | n + 2, _ => by
    obtain ⟨m, hm, q⟩ := most_of F (n + 1) (by omega)
    rcases Rat.le_total (a := F m) (b := F (n + 1)) with z | z
    · refine ⟨n + 1, by omega, fun k hk => ?_⟩
      by_cases e : k = n + 1
      · rw [e]; exact Rat.le_refl
      · exact Rat.le_trans (q k (by omega)) z
    · refine ⟨m, by omega, fun k hk => ?_⟩
      by_cases e : k = n + 1
      · rw [e]; exact z
      · exact q k (by omega)
open Classical in
theorem least_of (S : Nat → Prop) (F : Nat → Rat) : ∀ n, (∀ k, k < n → ¬ S k) ∨ ∃ m, m < n ∧ S m ∧ ∀ k, k < n → S k → F m ≤ F k
  | 0 => Or.inl fun k hk => absurd hk (by omega)
  | n + 1 => by
    by_cases s : S n
    · right
      rcases least_of S F n with q | ⟨m, hm, sm, q⟩
      · refine ⟨n, by omega, s, fun k hk sk => ?_⟩
        by_cases e : k = n
        · rw [e]; exact Rat.le_refl
        · exact absurd sk (q k (by omega))
      · rcases Rat.le_total (a := F m) (b := F n) with z | z
        · refine ⟨m, by omega, sm, fun k hk sk => ?_⟩
          by_cases e : k = n
          · rw [e]; exact z
          · exact q k (by omega) sk
        · refine ⟨n, by omega, s, fun k hk sk => ?_⟩
          by_cases e : k = n
          · rw [e]; exact Rat.le_refl
          · exact Rat.le_trans z (q k (by omega) sk)
    · rcases least_of S F n with q | ⟨m, hm, sm, q⟩
      · left
        intro k hk
        by_cases e : k = n
        · rw [e]; exact s
        · exact q k (by omega)
      · right
        refine ⟨m, by omega, sm, fun k hk sk => ?_⟩
        by_cases e : k = n
        · rw [e] at sk; exact absurd sk s
        · exact q k (by omega) sk
theorem at_add (r : Row) (i : Nat) : at_ r (i + r.length) = at_ r i := by
  unfold at_
  rw [Nat.add_mod_right]
/-- every corner stands in the midst of three -/
theorem corner_three {r : Row} (h : RowFine r) (i : Nat) : ∃ j, at_ r (j + 1) = at_ r i ∧ at_ r (j + 2) = at_ r (i + 1) := by
  refine ⟨i + r.length - 1, ?_, ?_⟩
  · have : i + r.length - 1 + 1 = i + r.length := by have := h.three; omega
    rw [this, at_add]
  · have : i + r.length - 1 + 2 = (i + 1) + r.length := by have := h.three; omega
    rw [this, at_add]
theorem passes_right0 {a b v : Point} (ha : a.1 ≤ v.1) (hb : b.1 ≤ v.1) (hu : a.2 ≤ b.2) : passes v (a, b) = 0 := by
  by_cases h : a.2 ≤ v.2 ∧ v.2 < b.2
  · obtain ⟨t, t0, t1, et, ht⟩ := level h.1 h.2
    rw [passes_up h.1 h.2]
    apply one_neg
    rw [ht]
    have e : (part a b t).1 = (1 - t) * a.1 + t * b.1 := by
      have : (part a b t).1 = a.1 + t * (b.1 - a.1) := rfl
      rw [this]
      grind
    rw [e]
    have := Rat.mul_nonneg (a := 1 - t) (b := v.1 - a.1) (by grind) (by grind)
    have := Rat.mul_nonneg (a := t) (b := v.1 - b.1) t0 (by grind)
    grind
  · exact passes_no hu h
theorem passes_right {a b v : Point} (ha : a.1 ≤ v.1) (hb : b.1 ≤ v.1) : passes v (a, b) = 0 := by
  by_cases hu : a.2 ≤ b.2
  · exact passes_right0 ha hb hu
  · have := passes_turn v b a
    rw [this, passes_right0 hb ha (by grind)]
    rfl
/-- nothing is right of the corner that is farthest right -/
theorem left_small {r : Row} (h : RowFine r) : leftOf r = 0 ∨ leftOf r = 1 := by
  have hn := h.three
  obtain ⟨m, hm, q⟩ := most_of (fun k => (at_ r k).1) r.length (by omega)
  obtain ⟨j, e1, e2⟩ := corner_three h m
  have all : ∀ k, (at_ r k).1 ≤ (at_ r m).1 := fun k => by
    have := q (k % r.length) (Nat.mod_lt _ (by omega))
    simp only [at_mod] at this
    exact this
  have w0 : winds r (at_ r (j + 1)) = 0 := by
    rw [e1, winds_sum, sumTo_congr (G := fun _ => 0) fun k hk => passes_right (all k) (all (k + 1))]
    exact sumTo_zero _
  have := left_all h j
  rw [w0] at this
  have := alpha_cases (at_ r j) (at_ r (j + 1)) (at_ r (j + 2))
  omega

/-! ### where an edge passes a height -/
def straddle (a b : Point) (h : Rat) : Prop := (a.2 ≤ h ∧ h < b.2) ∨ (b.2 ≤ h ∧ h < a.2)
def cOf (a b : Point) (h : Rat) : Point := part a b ((h - a.2) / (b.2 - a.2))
def dirn (a b : Point) : Int := if a.2 < b.2 then 1 else -1
theorem cOf_is {a b : Point} {h t : Rat} (ne : a.2 ≠ b.2) (e : (part a b t).2 = h) : cOf a b h = part a b t := by
  unfold cOf
  congr 1
  have e1 : (part a b t).2 = a.2 + t * (b.2 - a.2) := rfl
  have hd : b.2 - a.2 ≠ 0 := by grind
  rw [e1] at e
  grind
theorem no_straddle {a b z : Point} (h : ¬ straddle a b z.2) : passes z (a, b) = 0 := by
  unfold straddle at h
  unfold passes
  simp only
  rw [if_neg (by grind), if_neg (by grind)]
theorem straddled {a b z : Point} (h : straddle a b z.2) : on a b (cOf a b z.2) = true ∧ (cOf a b z.2).2 = z.2 ∧ passes z (a, b) = dirn a b * one (z.1 < (cOf a b z.2).1) := by
  unfold straddle at h
  rcases h with ⟨h1, h2⟩ | ⟨h1, h2⟩
  · have ne : a ≠ b := fun e => by rw [e] at h1; grind
    obtain ⟨t, t0, t1, et, ht⟩ := level h1 h2
    rw [cOf_is (by grind) et]
    refine ⟨(on_part ne).mpr ⟨t, t0, t1, rfl⟩, et, ?_⟩
    rw [passes_up h1 h2]
    unfold dirn
    rw [if_pos (by grind), Int.one_mul]
    exact one_congr ht
  · have ne : a ≠ b := fun e => by rw [e] at h2; grind
    obtain ⟨t, t0, t1, et, ht⟩ := level h1 h2
    have ep : part b a t = part a b (1 - t) := part_turn b a t
    rw [ep] at et ht
    rw [cOf_is (by grind) et]
    refine ⟨(on_part ne).mpr ⟨1 - t, by grind, by grind, rfl⟩, et, ?_⟩
    have := passes_turn z b a
    rw [this, passes_up h1 h2]
    unfold dirn
    rw [if_neg (by grind), one_congr ht]
    omega
/-- left of a corner at its height -/
theorem beside {p c w : Point} (h1 : p.2 = c.2) (h2 : p.1 < c.1) : passes p (c, w) = one (c.2 < w.2) := by
  by_cases h : c.2 < w.2
  · rw [passes_up (by grind) (by grind), one_pos h]
    apply one_pos
    have e : side c w p = (w.2 - c.2) * (c.1 - p.1) := by
      unfold side cross less
      simp only
      grind
    rw [e]
    exact Rat.mul_pos (by grind) (by grind)
  · have := passes_turn p w c
    rw [this, passes_no (by grind) (by grind), one_neg h]
    rfl
/-- **three numbers at most** -/
theorem winds_among {r : Row} (h : RowFine r) (p : Point) : winds r p = 0 ∨ winds r p = leftOf r ∨ winds r p = leftOf r - 1 := by
  have hn := h.three
  rcases least_of (fun k => straddle (at_ r k) (at_ r (k + 1)) p.2 ∧ p.1 < (cOf (at_ r k) (at_ r (k + 1)) p.2).1) (fun k => (cOf (at_ r k) (at_ r (k + 1)) p.2).1) r.length with q | ⟨m, hm, ⟨sm, xm⟩, q⟩
  · left
    rw [winds_sum, sumTo_congr (G := fun _ => 0) fun k hk => ?_]
    · exact sumTo_zero _
    · by_cases s : straddle (at_ r k) (at_ r (k + 1)) p.2
      · rw [(straddled s).2.2, one_neg fun z => q k hk ⟨s, z⟩, Int.mul_zero]
      · exact no_straddle s
  · right
    obtain ⟨c1, c2, c3⟩ := straddled sm
    generalize hc : cOf (at_ r m) (at_ r (m + 1)) p.2 = c at c1 c2 c3 xm
    have same : ∀ f, f < r.length → ¬ on (at_ r f) (at_ r (f + 1)) c = true → passes p (at_ r f, at_ r (f + 1)) = passes c (at_ r f, at_ r (f + 1)) := by
      intro f hf no
      by_cases s : straddle (at_ r f) (at_ r (f + 1)) p.2
      · obtain ⟨d1, d2, d3⟩ := straddled s
        obtain ⟨e1, e2, e3⟩ := straddled (z := c) (by rw [c2]; exact s)
        rw [d3, e3, c2]
        congr 1
        apply one_congr
        constructor
        · intro z
          have le := q f hf ⟨s, z⟩
          simp only [hc] at le
          have ne : c.1 ≠ (cOf (at_ r f) (at_ r (f + 1)) p.2).1 := fun w => no (by
            have : c = cOf (at_ r f) (at_ r (f + 1)) p.2 := Prod.ext w (by rw [c2, d2])
            rw [this]
            exact d1)
          grind
        · intro z
          grind
      · rw [no_straddle s, no_straddle (by rw [c2]; exact s)]
    have ap := h.apart m
    obtain ⟨t, t0, t1, et⟩ := (on_part ap).mp c1
    by_cases corner : ∃ i, c = at_ r i
    · obtain ⟨i, ei⟩ := corner
      obtain ⟨j, e1, e2⟩ := corner_three h i
      have L := left_all h j
      obtain ⟨m1, _, _⟩ := three_mod (j := j) hn
      have ej : at_ r (j + 1) = c := by rw [e1, ei]
      have hj0 : j % r.length < r.length := Nat.mod_lt _ (by omega)
      have hj1 : (j + 1) % r.length < r.length := Nat.mod_lt _ (by omega)
      have each : ∀ k, k < r.length → passes p (at_ r k, at_ r (k + 1)) - passes c (at_ r k, at_ r (k + 1)) = (if k = (j + 1) % r.length then one (c.2 < (at_ r (j + 2)).2) else 0) + (if k = j % r.length then -one (c.2 < (at_ r j).2) else 0) := by
        intro k hk
        by_cases k1 : k = (j + 1) % r.length
        · have n2 : ¬ k = j % r.length := by omega
          rw [if_pos k1, if_neg n2]
          have ea : at_ r k = c := by rw [k1, at_mod, ej]
          have eb : at_ r (k + 1) = at_ r (j + 2) := by rw [k1, at_step]
          rw [ea, eb, beside (by rw [c2]) xm, passes_on (side_on (on_start c _))]
          omega
        · by_cases k2 : k = j % r.length
          · rw [if_neg k1, if_pos k2]
            have ea : at_ r k = at_ r j := by rw [k2, at_mod]
            have eb : at_ r (k + 1) = c := by rw [k2, at_step, ej]
            have := passes_turn p c (at_ r j)
            rw [ea, eb, this, beside (by rw [c2]) xm, passes_on (side_on (on_end _ c))]
            omega
          · rw [if_neg k1, if_neg k2]
            have := same k hk fun on1 => by
              have ek : c = at_ r ((j + 1) % r.length) := by rw [at_mod, ej]
              rw [ek] at on1
              rcases corner_on h hk hj1 on1 with w | w
              · exact k1 w.symm
              · exact k2 (back_mod hk w)
            omega
      have W : winds r p - winds r c = one (c.2 < (at_ r (j + 2)).2) + -one (c.2 < (at_ r j).2) := by
        rw [winds_sum, winds_sum, ← sumTo_sub, sumTo_congr each, sumTo_add (fun k => if k = (j + 1) % r.length then one (c.2 < (at_ r (j + 2)).2) else 0), sumTo_one, sumTo_one, if_pos hj1, if_pos hj0]
      rw [ej] at L
      have ac := alpha_cases (at_ r j) c (at_ r (j + 2))
      by_cases up : c.2 < (at_ r (j + 2)).2
      · rw [one_pos up] at W
        by_cases uu : c.2 < (at_ r j).2
        · rw [one_pos uu] at W
          omega
        · rw [one_neg uu] at W
          unfold alpha at L ac
          rw [if_pos up, one_neg (fun z => uu z.1)] at L
          omega
      · rw [one_neg up] at W
        by_cases uu : c.2 < (at_ r j).2
        · rw [one_pos uu] at W
          unfold alpha at L
          rw [if_neg up, one_pos uu, one_neg (by grind)] at L
          split at L
          · omega
          · split at L <;> omega
        · rw [one_neg uu] at W
          omega
    · -- in the midst of one edge
      have tn0 : t ≠ 0 := fun z => corner ⟨m, by rw [et, z, part_zero]⟩
      have tn1 : t ≠ 1 := fun z => corner ⟨m + 1, by rw [et, z, part_one]⟩
      have each : ∀ k, k < r.length → passes p (at_ r k, at_ r (k + 1)) - passes c (at_ r k, at_ r (k + 1)) = (if k = m then dirn (at_ r m) (at_ r (m + 1)) else 0) := by
        intro k hk
        by_cases km : k = m
        · subst km
          rw [if_pos rfl, c3, one_pos xm, passes_on (side_on c1)]
          omega
        · rw [if_neg km]
          have := same k hk fun on1 => by
            rcases two_edges h hm hk (fun z => km z.symm) c1 on1 with ⟨_, w⟩ | ⟨_, w⟩
            · exact corner ⟨k, w⟩
            · exact corner ⟨m, w⟩
          omega
      have W : winds r p - winds r c = dirn (at_ r m) (at_ r (m + 1)) := by
        rw [winds_sum, winds_sum, ← sumTo_sub, sumTo_congr each, sumTo_one, if_pos hm]
      obtain ⟨j, e1, e2⟩ := corner_three h m
      have L := left_all h j
      have H := half_first (j := j) h (t := t) (by grind) (by grind)
      rw [e1, e2] at L H
      rw [← et] at H
      unfold dirn at W
      unfold eps at H
      unfold straddle at sm
      rcases sm with ⟨s1, s2⟩ | ⟨s1, s2⟩
      · rw [if_pos (by grind)] at W
        rw [if_pos (by grind)] at H
        omega
      · rw [if_neg (by grind)] at W
        rw [if_neg (by grind), if_pos (by grind)] at H
        omega
/-- **never more than once** -/
theorem winds_once {r : Row} (h : RowFine r) (p : Point) : winds r p = 0 ∨ winds r p = 1 ∨ winds r p = -1 := by
  have := winds_among h p
  have := left_small h
  omega
/-- how many edges pass on the right -/
def crossings (r : Row) (p : Point) : Int := sumTo r.length fun k => if passes p (at_ r k, at_ r (k + 1)) = 0 then 0 else 1
theorem passes_cases (p a b : Point) : passes p (a, b) = 0 ∨ passes p (a, b) = 1 ∨ passes p (a, b) = -1 := by
  unfold passes
  split
  · exact Or.inr (Or.inl rfl)
  · split
    · exact Or.inr (Or.inr rfl)
    · exact Or.inl rfl
theorem sum_parity {F G : Nat → Int} : ∀ {n : Nat}, (∀ k, k < n → F k % 2 = G k % 2) → sumTo n F % 2 = sumTo n G % 2
  | 0, _ => rfl
  | n + 1, h => by
    simp only [sumTo]
    have a := sum_parity (n := n) fun k hk => h k (by omega)
    have b := h n (by omega)
    omega
/-- **odd and even tell the same** -/
theorem winds_odd {r : Row} (h : RowFine r) (p : Point) : winds r p ≠ 0 ↔ crossings r p % 2 = 1 := by
  have e : crossings r p % 2 = winds r p % 2 := by
    rw [winds_sum]
    unfold crossings
    apply sum_parity
    intro k hk
    rcases passes_cases p (at_ r k) (at_ r (k + 1)) with z | z | z
    · rw [if_pos z, z]
    · rw [if_neg (by omega), z]
    · rw [if_neg (by omega), z]
      rfl
  have := winds_once h p
  omega
end SR
set_option Elab.async false
/-! # Meeting is having a point in common -/
namespace SR
open SeamNum SeamPoly

theorem opposite_part {x y : Rat} (h : x * y < 0) : ∃ t : Rat, 0 ≤ t ∧ t ≤ 1 ∧ (1 - t) * x + t * y = 0 := by
  have hne : x - y ≠ 0 := by
    rcases mul_lt.mp h with ⟨h1, h2⟩ | ⟨h1, h2⟩ <;> grind
  have e0 : (x - y) * (x / (x - y)) = x := by grind
  refine ⟨x / (x - y), ?_, ?_, by grind⟩
  · rcases mul_lt.mp h with ⟨h1, h2⟩ | ⟨h1, h2⟩
    · apply cancel_le (k := -(x - y)) (by grind)
      grind
    · apply cancel_le (k := x - y) (by grind)
      grind
  · rcases mul_lt.mp h with ⟨h1, h2⟩ | ⟨h1, h2⟩
    · apply cancel_le (k := -(x - y)) (by grind)
      grind
    · apply cancel_le (k := x - y) (by grind)
      grind
/-- the part at which two signs weigh to 0 is within -/
theorem weigh_within {t x y : Rat} (h : x * y < 0) (e : (1 - t) * x + t * y = 0) : 0 ≤ t ∧ t ≤ 1 := by
  obtain ⟨u, u0, u1, eu⟩ := opposite_part h
  have hne : x - y ≠ 0 := by
    rcases mul_lt.mp h with ⟨h1, h2⟩ | ⟨h1, h2⟩ <;> grind
  have : t = u := by grind
  rw [this]
  exact ⟨u0, u1⟩
theorem meet_common {a b c d : Point} (h : a ≠ b) (k : c ≠ d) (m : meet a b c d = true) : ∃ x, on a b x = true ∧ on c d x = true := by
  unfold meet at m
  simp only [Bool.or_eq_true, Bool.and_eq_true, decide_eq_true_eq] at m
  rcases m with m | m | m | m | ⟨m1, m2⟩
  · exact ⟨c, m, on_start c d⟩
  · exact ⟨d, m, on_end c d⟩
  · exact ⟨a, on_start a b, m⟩
  · exact ⟨b, on_end a b, m⟩
  · obtain ⟨u, u0, u1, eu⟩ := opposite_part m1
    have s0 : side a b (part c d u) = 0 := by rw [side_part]; exact eu
    obtain ⟨t, et⟩ := along h s0
    have s1 : side c d (part c d u) = 0 := (side_same c d u 0).1
    rw [et, side_part] at s1
    obtain ⟨t0, t1⟩ := weigh_within m2 s1
    exact ⟨part c d u, (on_part h).mpr ⟨t, t0, t1, et⟩, (on_part k).mpr ⟨u, u0, u1, rfl⟩⟩
/-- **Meeting: a point in common** -/
theorem meet_iff {a b c d : Point} (h : a ≠ b) (k : c ≠ d) : meet a b c d = true ↔ ∃ x, on a b x = true ∧ on c d x = true :=
  ⟨meet_common h k, fun ⟨_, h1, h2⟩ => meet_of h k h1 h2⟩
/-- by the sides' signs: lines that cross, none of the ends on the other's line -/
theorem meet_signs {a b c d : Point} (n1 : side a b c ≠ 0) (n2 : side a b d ≠ 0) (n3 : side c d a ≠ 0) (n4 : side c d b ≠ 0) : meet a b c d = true ↔ side a b c * side a b d < 0 ∧ side c d a * side c d b < 0 := by
  unfold meet
  simp only [Bool.or_eq_true, Bool.and_eq_true, decide_eq_true_eq]
  constructor
  · rintro (m | m | m | m | m)
    · exact absurd (side_on m) n1
    · exact absurd (side_on m) n2
    · exact absurd (side_on m) n3
    · exact absurd (side_on m) n4
    · exact m
  · intro m
    exact Or.inr (Or.inr (Or.inr (Or.inr m)))
end SR
set_option Elab.async false
/-! # How many bits a fraction has -/
namespace SR
open SeamNum SeamPoly

/-- in lowest terms it's no longer than told otherwise -/
theorem Rep.small {q : Rat} {n d : Int} (h : Rep q n d) : q.num.natAbs ≤ n.natAbs ∧ (q.den : Int) ≤ d := by
  obtain ⟨h1, h2⟩ := h.cut
  obtain ⟨e1, e2⟩ := h1.red h2
  have hd := h.1
  have gp : 0 < Int.gcd n d := Int.gcd_pos_of_ne_zero_right n (by omega)
  rw [e1, e2]
  constructor
  · rw [Int.natAbs_ediv_of_dvd (Int.gcd_dvd_left n d)]
    exact Nat.div_le_self _ _
  · exact Int.ediv_le_self _ (by omega)
def Bits (q : Rat) (b : Nat) : Prop := q.num.natAbs < 2 ^ b ∧ q.den < 2 ^ b
theorem Bits.of {q : Rat} {n d : Int} {b : Nat} (h : Rep q n d) (hn : n.natAbs < 2 ^ b) (hd : d.natAbs < 2 ^ b) : Bits q b := by
  obtain ⟨h1, h2⟩ := h.small
  have := h.1
  exact ⟨by omega, by omega⟩
theorem Bits.mono {q : Rat} {b c : Nat} (h : Bits q b) (k : b ≤ c) : Bits q c := by
  have := Nat.pow_le_pow_right (n := 2) (by decide) k
  exact ⟨Nat.lt_of_lt_of_le h.1 this, Nat.lt_of_lt_of_le h.2 this⟩
theorem mul_bits {x y a b : Nat} (h : x < 2 ^ a) (k : y < 2 ^ b) : x * y < 2 ^ (a + b) := by
  rw [Nat.pow_add]
  exact Nat.mul_lt_mul'' h k
theorem Bits.neg {q : Rat} {b : Nat} (h : Bits q b) : Bits (-q) b := by
  unfold Bits
  rw [Rat.neg_num, Rat.neg_den, Int.natAbs_neg]
  exact h
theorem Bits.mul {q r : Rat} {b c : Nat} (h : Bits q b) (k : Bits r c) : Bits (q * r) (b + c) := by
  refine .of ((Rep.of q).mul (Rep.of r)) ?_ ?_
  · rw [Int.natAbs_mul]
    exact mul_bits h.1 k.1
  · rw [Int.natAbs_mul]
    exact mul_bits h.2 k.2
theorem Bits.add {q r : Rat} {b c : Nat} (h : Bits q b) (k : Bits r c) : Bits (q + r) (b + c + 1) := by
  have e : 2 ^ (b + c + 1) = 2 ^ (b + c) + 2 ^ (b + c) := by rw [Nat.pow_succ]; omega
  refine .of ((Rep.of q).add (Rep.of r)) ?_ ?_
  · have h1 : (q.num * (r.den : Int)).natAbs < 2 ^ (b + c) := by
      rw [Int.natAbs_mul]
      exact mul_bits h.1 k.2
    have h2 : (r.num * (q.den : Int)).natAbs < 2 ^ (b + c) := by
      rw [Int.natAbs_mul, Nat.add_comm]
      exact mul_bits k.1 h.2
    have := Int.natAbs_add_le (q.num * (r.den : Int)) (r.num * (q.den : Int))
    omega
  · have h1 : ((q.den : Int) * (r.den : Int)).natAbs < 2 ^ (b + c) := by
      rw [Int.natAbs_mul]
      exact mul_bits h.2 k.2
    omega
theorem Bits.sub {q r : Rat} {b c : Nat} (h : Bits q b) (k : Bits r c) : Bits (q - r) (b + c + 1) := by
  rw [Rat.sub_eq_add_neg]
  exact h.add k.neg
theorem Bits.inv {q : Rat} {b : Nat} (h : Bits q b) (z : q ≠ 0) : Bits q⁻¹ b := by
  have hr := Rep.of q
  have nz : q.num ≠ 0 := fun e => z (hr.zero_iff.mpr e)
  rcases Int.lt_or_lt_of_ne nz with n | n
  · refine .of (hr.inv_neg n) ?_ ?_
    · rw [Int.natAbs_neg]; exact h.2
    · rw [Int.natAbs_neg]; exact h.1
  · exact .of (hr.inv_pos n) h.2 h.1
theorem Bits.div {q r : Rat} {b c : Nat} (h : Bits q b) (k : Bits r c) (z : r ≠ 0) : Bits (q / r) (b + c) := by
  rw [Rat.div_def]
  exact h.mul (k.inv z)
theorem fits_bits {q : Rat} (h : fits q = true) : Bits q 63 := by
  unfold fits FINE at h
  simp only [Bool.and_eq_true, decide_eq_true_eq] at h
  have e : 2 ^ 62 < 2 ^ 63 := by decide
  exact ⟨Nat.lt_of_le_of_lt h.1 e, Nat.lt_of_le_of_lt h.2 e⟩
def BitsP (p : Point) (b : Nat) : Prop := Bits p.1 b ∧ Bits p.2 b
theorem fitsP_bits {p : Point} (h : fitsP p = true) : BitsP p 63 := by
  unfold fitsP at h
  rw [Bool.and_eq_true] at h
  exact ⟨fits_bits h.1, fits_bits h.2⟩
theorem BitsP.less {p q : Point} {b c : Nat} (h : BitsP p b) (k : BitsP q c) : BitsP (less p q) (b + c + 1) := ⟨h.1.sub k.1, h.2.sub k.2⟩
theorem Bits.cross {p q : Point} {b c : Nat} (h : BitsP p b) (k : BitsP q c) : Bits (cross p q) (2 * b + 2 * c + 1) := by
  have := (h.1.mul k.2).sub (h.2.mul k.1)
  exact this.mono (by omega)
theorem Bits.dot {p q : Point} {b c : Nat} (h : BitsP p b) (k : BitsP q c) : Bits (dot p q) (2 * b + 2 * c + 1) := by
  have := (h.1.mul k.1).add (h.2.mul k.2)
  exact this.mono (by omega)
theorem log2_bits {n b : Nat} (h : n < 2 ^ b) (hb : 0 < b) : n.log2 < b := by
  by_cases z : n = 0
  · subst z
    simpa using hb
  · exact (Nat.log2_lt z).mpr h
end SR
set_option Elab.async false
/-! # Lowest terms by convergents; a number's text both ways -/
namespace SR
open SeamNum SeamPattern

/-- n / d, gone so far: what is left, the last convergent, this one -/
structure LowInv (n d u v l1 l2 c1 c2 : Nat) : Prop where
  en : n = c1 * u + l1 * v
  ed : d = c2 * u + l2 * v
  det : c1 * l2 = c2 * l1 + 1 ∨ c2 * l1 = c1 * l2 + 1
theorem LowInv.start (n d : Nat) : LowInv n d n d 0 1 1 0 := ⟨by omega, by omega, Or.inl (by omega)⟩
theorem LowInv.step {n d u v l1 l2 c1 c2 : Nat} (h : LowInv n d u v l1 l2 c1 c2) : LowInv n d v (u % v) c1 c2 (u / v * c1 + l1) (u / v * c2 + l2) := by
  obtain ⟨en, ed, det⟩ := h
  have e := Nat.div_add_mod u v
  refine ⟨?_, ?_, ?_⟩
  · rw [en]
    generalize u / v = w at e ⊢
    generalize u % v = r at e ⊢
    subst e
    grind
  · rw [ed]
    generalize u / v = w at e ⊢
    generalize u % v = r at e ⊢
    subst e
    grind
  · generalize u / v = w
    rcases det with det | det
    · right
      grind
    · left
      grind
/-- all that divides both divides what is left -/
theorem LowInv.dvd {n d u v l1 l2 c1 c2 g : Nat} (h : LowInv n d u v l1 l2 c1 c2) (hn : g ∣ n) (hd : g ∣ d) : g ∣ v ∧ g ∣ u := by
  obtain ⟨en, ed, det⟩ := h
  have a1 : g ∣ c2 * n := Nat.dvd_mul_left_of_dvd hn c2
  have a2 : g ∣ c1 * d := Nat.dvd_mul_left_of_dvd hd c1
  have b1 : g ∣ l2 * n := Nat.dvd_mul_left_of_dvd hn l2
  have b2 : g ∣ l1 * d := Nat.dvd_mul_left_of_dvd hd l1
  rcases det with det | det
  · have e : c1 * d = c2 * n + v := by rw [en, ed]; grind
    have e' : l2 * n = l1 * d + u := by rw [en, ed]; grind
    exact ⟨(Nat.dvd_add_right a1).mp (by rw [← e]; exact a2), (Nat.dvd_add_right b2).mp (by rw [← e']; exact b1)⟩
  · have e : c2 * n = c1 * d + v := by rw [en, ed]; grind
    have e' : l1 * d = l2 * n + u := by rw [en, ed]; grind
    exact ⟨(Nat.dvd_add_right a2).mp (by rw [← e]; exact a1), (Nat.dvd_add_right b1).mp (by rw [← e']; exact b2)⟩
variable {q : Rat} {n d : Int}
theorem rep_parts (h : Rep q n d) : n.natAbs = q.num.natAbs * Int.gcd n d ∧ d.natAbs = q.den * Int.gcd n d := by
  obtain ⟨h1, g1⟩ := h.cut
  obtain ⟨e1, e2⟩ := h1.red g1
  have dn := Int.ediv_mul_cancel (Int.gcd_dvd_left n d)
  have dd := Int.ediv_mul_cancel (Int.gcd_dvd_right n d)
  rw [← e1] at dn
  rw [← e2] at dd
  constructor
  · have z := congrArg Int.natAbs dn
    rw [Int.natAbs_mul] at z
    exact z.symm
  · have z := congrArg Int.natAbs dd
    rw [Int.natAbs_mul] at z
    exact z.symm
/-- the next convergent is no finer than the fraction -/
theorem LowInv.under {u v l1 l2 c1 c2 : Nat} (h : Rep q n d) (i : LowInv n.natAbs d.natAbs u v l1 l2 c1 c2) (hv : v ≠ 0) : u / v * c1 + l1 ≤ q.num.natAbs ∧ u / v * c2 + l2 ≤ q.den := by
  obtain ⟨p1, p2⟩ := rep_parts h
  have gp : 0 < Int.gcd n d := Int.gcd_pos_of_ne_zero_right n (by have := h.1; omega)
  have gv : Int.gcd n d ∣ v := (i.dvd (Nat.gcd_dvd_left _ _) (Nat.gcd_dvd_right _ _)).1
  have gle := Nat.le_of_dvd (by omega) gv
  obtain ⟨en, ed, _⟩ := i.step
  constructor
  · have z : (u / v * c1 + l1) * Int.gcd n d ≤ q.num.natAbs * Int.gcd n d := by
      rw [← p1, en]
      exact Nat.le_trans (Nat.mul_le_mul_left _ gle) (Nat.le_add_right _ _)
    exact Nat.le_of_mul_le_mul_right z gp
  · have z : (u / v * c2 + l2) * Int.gcd n d ≤ q.den * Int.gcd n d := by
      rw [← p2, ed]
      exact Nat.le_trans (Nat.mul_le_mul_left _ gle) (Nat.le_add_right _ _)
    exact Nat.le_of_mul_le_mul_right z gp
theorem LowInv.big {u v l1 l2 c1 c2 : Nat} (h : Rep q n d) (i : LowInv n.natAbs d.natAbs u v l1 l2 c1 c2) (hv : v ≠ 0) (hf : FINE < u / v * c1 + l1 ∨ FINE < u / v * c2 + l2) : fits q = false := by
  obtain ⟨a, b⟩ := i.under h hv
  unfold fits
  rw [Bool.and_eq_false_iff, decide_eq_false_iff_not, decide_eq_false_iff_not]
  omega
/-- the last convergent is the fraction -/
theorem LowInv.last {u l1 l2 c1 c2 : Nat} (h : Rep q n d) (i : LowInv n.natAbs d.natAbs u 0 l1 l2 c1 c2) : q.num.natAbs = c1 ∧ q.den = c2 := by
  obtain ⟨p1, p2⟩ := rep_parts h
  have gp : 0 < Int.gcd n d := Int.gcd_pos_of_ne_zero_right n (by have := h.1; omega)
  obtain ⟨en, ed, det⟩ := i
  rw [Nat.mul_zero, Nat.add_zero] at en ed
  have hu : Int.gcd n d = u := by
    show Nat.gcd n.natAbs d.natAbs = u
    rw [en, ed, Nat.gcd_mul_right]
    have z : Nat.gcd c1 c2 = 1 := by
      have d1 := Nat.gcd_dvd_left c1 c2
      have d2 := Nat.gcd_dvd_right c1 c2
      have a1 : Nat.gcd c1 c2 ∣ c1 * l2 := Nat.dvd_mul_right_of_dvd d1 l2
      have a2 : Nat.gcd c1 c2 ∣ c2 * l1 := Nat.dvd_mul_right_of_dvd d2 l1
      rcases det with det | det
      · rw [det] at a1
        exact Nat.dvd_one.mp ((Nat.dvd_add_right a2).mp a1)
      · rw [det] at a2
        exact Nat.dvd_one.mp ((Nat.dvd_add_right a1).mp a2)
    rw [z, Nat.one_mul]
  rw [hu] at p1 p2 gp
  rw [en] at p1
  rw [ed] at p2
  exact ⟨(Nat.eq_of_mul_eq_mul_right gp p1).symm, (Nat.eq_of_mul_eq_mul_right gp p2).symm⟩
theorem fits_of {c1 c2 : Nat} (h1 : q.num.natAbs = c1) (h2 : q.den = c2) (a : c1 ≤ FINE) (b : c2 ≤ FINE) : fits q = true := by
  unfold fits
  rw [h1, h2, decide_eq_true a, decide_eq_true b]
  rfl
theorem num_sign (h : Rep q n d) : q.num = if n < 0 then -(q.num.natAbs : Int) else q.num.natAbs := by
  have z := h.neg_iff
  rw [(Rep.of q).neg_iff] at z
  split
  · have := z.mpr ‹_›; omega
  · have : ¬ q.num < 0 := fun k => absurd (z.mp k) ‹_›
    omega
/-! ### a number's text -/
theorem rep_self (q : Rat) : Rep q q.num q.den ∧ Int.gcd q.num q.den = 1 := ⟨Rep.of q, by have := q.reduced; exact this⟩
theorem numText_self (q : Rat) : numText q = (if q.num < 0 then [45] else []) ++ (decimal q.num.natAbs ++ (if q.den = 1 then [] else 47 :: decimal q.den)) := by
  have z := numText_red (rep_self q).1 (rep_self q).2
  rw [z]
  have e : ((q.den : Int) = 1) ↔ q.den = 1 := by omega
  have e2 : (q.den : Int).natAbs = q.den := Int.natAbs_natCast _
  simp only [e, e2]
/-- **read back** -/
theorem readNum_text {q : Rat} (h : fits q = true) : readNum (numText q) = some q := by
  obtain ⟨c1, c2⟩ := numText_cut q
  have e0 : readNum (numText q) = ((readNat (cutAt 47 (stripped (numText q)).2).1).bind fun (p : Nat) => (match (cutAt 47 (stripped (numText q)).2).2 with
    | none => some 1
    | some d => readNat d).bind fun (e : Nat) =>
      let x : Rat := if e = 0 then 0 else (if (stripped (numText q)).1 = true then -(p : Rat) else (p : Rat)) / (e : Rat)
      if e ≠ 0 ∧ fits x = true ∧ numText x = numText q then some x else none) := rfl
  rw [e0, c1, c2]
  simp only [readNat_decimal, Option.bind_some]
  have hd : (match (if q.den = 1 then none else some (decimal q.den) : Option Bytes) with
    | none => some 1
    | some d => readNat d) = some q.den := by
    by_cases z : q.den = 1
    · rw [if_pos z, z]
    · rw [if_neg z]
      exact readNat_decimal _
  rw [hd]
  simp only [Option.bind_some]
  have dz : q.den ≠ 0 := q.den_nz
  rw [if_neg dz]
  have m := meant (decide (q < 0)) q.num.natAbs q.den dz
  have ex : ((if decide (q < 0) = true then -(q.num.natAbs : Rat) else (q.num.natAbs : Rat)) / (q.den : Rat)) = q := by
    have es : signed (decide (q < 0)) q.num.natAbs = q.num := by
      unfold signed
      have z := (Rep.of q).neg_iff
      by_cases k : q < 0
      · rw [if_pos (by simpa using k)]
        have := z.mp k
        omega
      · rw [if_neg (by simpa using k)]
        have : ¬ q.num < 0 := fun y => k (z.mpr y)
        omega
    rw [es] at m
    rw [m.2]
    exact Rat.num_divInt_den q
  rw [ex, if_pos ⟨dz, h, rfl⟩]
theorem readNum_some {b : Bytes} {x : Rat} (h : readNum b = some x) : numText x = b ∧ fits x = true := by
  have f := readNum_fits h
  refine ⟨?_, f⟩
  rw [readNum_is] at h
  have e0 : readNum b = ((readNat (cutAt 47 (stripped b).2).1).bind fun (p : Nat) => (match (cutAt 47 (stripped b).2).2 with
    | none => some 1
    | some d => readNat d).bind fun (e : Nat) =>
      let x : Rat := if e = 0 then 0 else (if (stripped b).1 = true then -(p : Rat) else (p : Rat)) / (e : Rat)
      if e ≠ 0 ∧ fits x = true ∧ numText x = b then some x else none) := rfl
  rw [← readNum_is, e0] at h
  cases hp : readNat (cutAt 47 (stripped b).2).1 with
  | none => rw [hp] at h; cases h
  | some p =>
    rw [hp] at h
    simp only [Option.bind_some] at h
    generalize (match (cutAt 47 (stripped b).2).2 with
      | none => some 1
      | some d => readNat d : Option Nat) = o at h
    cases o with
    | none => cases h
    | some e =>
      simp only [Option.bind_some] at h
      generalize (if e = 0 then (0 : Rat) else (if (stripped b).1 = true then -(p : Rat) else (p : Rat)) / (e : Rat)) = y at h
      by_cases c : e ≠ 0 ∧ fits y = true ∧ numText y = b
      · rw [if_pos c] at h
        cases h
        exact c.2.2
      · rw [if_neg c] at h
        cases h
/-- **a number's text: whose printed form it is** -/
theorem readNum_iff (b : Bytes) (x : Rat) : readNum b = some x ↔ numText x = b ∧ fits x = true :=
  ⟨readNum_some, fun ⟨e, f⟩ => by rw [← e]; exact readNum_text f⟩
theorem num_bytes {b : Bytes} {x : Rat} (h : readNum b = some x) : ∀ c ∈ b, isDigit c = true ∨ c = 45 ∨ c = 47 := by
  obtain ⟨e, _⟩ := readNum_some h
  rw [← e, numText_self]
  intro c hc
  rcases List.mem_append.mp hc with hc | hc
  · split at hc
    · simp at hc
      exact .inr (.inl hc)
    · cases hc
  · rcases List.mem_append.mp hc with hc | hc
    · exact .inl (decimal_digits _ c hc)
    · split at hc
      · cases hc
      · rcases List.mem_cons.mp hc with hc | hc
        · exact .inr (.inr hc)
        · exact .inl (decimal_digits _ c hc)
/-- few digits -/
theorem decimal_len {n k : Nat} (h : n < 10 ^ k) (hk : 0 < k) : (decimal n).length ≤ k := by
  unfold decimal
  rw [List.length_map]
  exact (Nat.length_toDigits_le_iff (by decide) hk).mpr h
end SR
set_option Elab.async false
set_option maxHeartbeats 1000000
/-! # Meeting by boxes and sides; a row that keeps apart -/
namespace SR
open SeamNum SeamPoly

/-- both of two numbers before both of two others, or behind -/
def offR (a b c d : Rat) : Prop := (a < c ∧ a < d ∧ b < c ∧ b < d) ∨ (c < a ∧ d < a ∧ c < b ∧ d < b)
theorem off_self (x c d : Rat) : ¬ offR x x c d ↔ amid c d x := by
  unfold offR amid
  grind
theorem off_swap {a b c d : Rat} : offR a b c d ↔ offR c d a b := by
  unfold offR
  grind
theorem off_turn {a b c d : Rat} : offR a b c d ↔ offR b a c d := by
  unfold offR
  grind
theorem off_amid {a b c d x : Rat} (h : amid a b x) (k : amid c d x) : ¬ offR a b c d := by
  unfold offR
  unfold amid at h k
  grind
/-- have a point in common, by boxes and sides -/
structure Hits (a b c d : Point) : Prop where
  x : ¬ offR a.1 b.1 c.1 d.1
  y : ¬ offR a.2 b.2 c.2 d.2
  l : side a b c * side a b d ≤ 0
  r : side c d a * side c d b ≤ 0
theorem Hits.swap {a b c d : Point} (h : Hits a b c d) : Hits c d a b := ⟨fun z => h.x (off_swap.mp z), fun z => h.y (off_swap.mp z), h.r, h.l⟩
theorem Hits.turn {a b c d : Point} (h : Hits a b c d) : Hits b a c d := by
  refine ⟨fun z => h.x (off_turn.mp z), fun z => h.y (off_turn.mp z), ?_, ?_⟩
  · rw [side_swap a b c, side_swap a b d]
    have := h.l
    grind
  · have := h.r
    grind
theorem not_pos_mul {x y : Rat} (h : x * y ≤ 0) : ¬ (0 < x ∧ 0 < y) ∧ ¬ (x < 0 ∧ y < 0) := by
  constructor
  · rintro ⟨p, q⟩
    have := Rat.mul_pos p q
    grind
  · rintro ⟨p, q⟩
    have := Rat.mul_pos (a := -x) (b := -y) (by grind) (by grind)
    grind
theorem mul_not_pos {x y : Rat} (h1 : ¬ (0 < x ∧ 0 < y)) (h2 : ¬ (x < 0 ∧ y < 0)) : x * y ≤ 0 := by
  by_cases z : x * y ≤ 0
  · exact z
  · exfalso
    have hp : 0 < x * y := by grind
    rcases three x 0 with a | a | a
    · rcases three y 0 with b | b | b
      · exact h2 ⟨a, b⟩
      · rw [b] at hp; grind
      · have := mul_lt.mpr (.inl ⟨a, b⟩)
        grind
    · rw [a] at hp; grind
    · rcases three y 0 with b | b | b
      · have := mul_lt.mpr (.inr ⟨a, b⟩)
        grind
      · rw [b] at hp; grind
      · exact h1 ⟨a, b⟩
theorem side_aa (a c : Point) : side a a c = 0 := by
  unfold side cross less
  grind
theorem sq_zero_of {x : Rat} (h : x * x ≤ 0) : x = 0 := sq_zero (by have := sq_nonneg x; grind)
theorem hits_zero {a b c d : Point} (h : Hits a b c d) (z : side a b c = 0) : on a b c = true ∨ on a b d = true ∨ on c d a = true := by
  by_cases hab : a = b
  · subst hab
    refine .inr (.inr ((on_box c d a).mpr ⟨?_, (off_self _ _ _).mp h.x, (off_self _ _ _).mp h.y⟩))
    have := h.r
    exact sq_zero_of this
  · obtain ⟨t, et⟩ := along hab z
    have e3 : side c d a = t * side a b d := by
      rw [et]
      unfold side part cross less plus times
      grind
    have e4 : side c d b = (t - 1) * side a b d := by
      rw [et]
      unfold side part cross less plus times
      grind
    by_cases z2 : side a b d = 0
    · obtain ⟨u, eu⟩ := along hab z2
      have hx := h.x
      have hy := h.y
      have c1 : c.1 = a.1 + t * (b.1 - a.1) := by rw [et]; rfl
      have c2 : c.2 = a.2 + t * (b.2 - a.2) := by rw [et]; rfl
      have d1 : d.1 = a.1 + u * (b.1 - a.1) := by rw [eu]; rfl
      have d2 : d.2 = a.2 + u * (b.2 - a.2) := by rw [eu]; rfl
      have key : ∀ w : Rat, w ≠ 0 → ∀ x : Rat, ¬ offR x (x + w) (x + t * w) (x + u * w) → ¬ (t < 0 ∧ u < 0) ∧ ¬ (1 < t ∧ 1 < u) := by
        intro w hw x no
        constructor
        · rintro ⟨p, q⟩
          apply no
          unfold offR
          rcases three w 0 with k | k | k
          · left
            have a1 := Rat.mul_pos (a := -t) (b := -w) (by grind) (by grind)
            have a2 := Rat.mul_pos (a := -u) (b := -w) (by grind) (by grind)
            grind
          · exact absurd k hw
          · right
            have a1 := Rat.mul_pos (a := -t) (b := w) (by grind) (by grind)
            have a2 := Rat.mul_pos (a := -u) (b := w) (by grind) (by grind)
            grind
        · rintro ⟨p, q⟩
          apply no
          unfold offR
          rcases three w 0 with k | k | k
          · right
            have a1 := Rat.mul_pos (a := t - 1) (b := -w) (by grind) (by grind)
            have a2 := Rat.mul_pos (a := u - 1) (b := -w) (by grind) (by grind)
            grind
          · exact absurd k hw
          · left
            have a1 := Rat.mul_pos (a := t - 1) (b := w) (by grind) (by grind)
            have a2 := Rat.mul_pos (a := u - 1) (b := w) (by grind) (by grind)
            grind
      have both : ¬ (t < 0 ∧ u < 0) ∧ ¬ (1 < t ∧ 1 < u) := by
        by_cases w1 : b.1 - a.1 = 0
        · have w2 : b.2 - a.2 ≠ 0 := fun w2 => hab (Prod.ext (by grind) (by grind))
          refine key _ w2 a.2 ?_
          have e : a.2 + (b.2 - a.2) = b.2 := by grind
          rw [e, ← c2, ← d2]
          exact hy
        · refine key _ w1 a.1 ?_
          have e : a.1 + (b.1 - a.1) = b.1 := by grind
          rw [e, ← c1, ← d1]
          exact hx
      by_cases t01 : 0 ≤ t ∧ t ≤ 1
      · exact .inl ((on_part hab).mpr ⟨t, t01.1, t01.2, et⟩)
      · by_cases u01 : 0 ≤ u ∧ u ≤ 1
        · exact .inr (.inl ((on_part hab).mpr ⟨u, u01.1, u01.2, eu⟩))
        · have tu : t * u ≤ 0 := mul_not_pos (by grind) (by grind)
          refine .inr (.inr ((on_box c d a).mpr ⟨by rw [e3, z2]; grind, ?_, ?_⟩))
          · rw [amid_iff, c1, d1]
            have s := sq_nonneg (b.1 - a.1)
            have m := mul_not_pos (x := t * u) (y := (b.1 - a.1) * (b.1 - a.1)) (by grind) (by grind)
            grind
          · rw [amid_iff, c2, d2]
            have s := sq_nonneg (b.2 - a.2)
            have m := mul_not_pos (x := t * u) (y := (b.2 - a.2) * (b.2 - a.2)) (by grind) (by grind)
            grind
    · have hr := h.r
      rw [e3, e4] at hr
      have s : 0 < side a b d * side a b d := by
        have := sq_nonneg (side a b d)
        rcases three (side a b d * side a b d) 0 with k | k | k
        · grind
        · exact absurd (sq_zero k) z2
        · exact k
      have t01 : t * (t - 1) ≤ 0 := by
        have e : t * side a b d * ((t - 1) * side a b d) = (side a b d * side a b d) * (t * (t - 1)) := by grind
        rw [e] at hr
        refine cancel_le s ?_
        grind
      obtain ⟨n1, n2⟩ := not_pos_mul t01
      exact .inl ((on_part hab).mpr ⟨t, by grind, by grind, et⟩)
theorem Hits.meet {a b c d : Point} (h : Hits a b c d) : SeamNum.meet a b c d = true := by
  have fin : ∀ {a b c d : Point}, (on a b c = true ∨ on a b d = true ∨ on c d a = true) → SeamNum.meet a b c d = true := by
    intro a b c d z
    unfold SeamNum.meet
    simp only [Bool.or_eq_true]
    rcases z with z | z | z
    · exact .inl z
    · exact .inr (.inl z)
    · exact .inr (.inr (.inl z))
  have half : ∀ {a b c d : Point}, Hits a b c d → side a b c * side a b d = 0 → SeamNum.meet a b c d = true := by
    intro a b c d h z
    by_cases z1 : side a b c = 0
    · exact fin (hits_zero h z1)
    · have z2 : side a b d = 0 := by grind
      rw [meet_swap, meet_turn, meet_swap]
      exact fin (hits_zero h.swap.turn.swap z2)
  by_cases z1 : side a b c * side a b d = 0
  · exact half h z1
  · by_cases z2 : side c d a * side c d b = 0
    · rw [meet_swap]
      exact half h.swap z2
    · have p1 : side a b c * side a b d < 0 := by have := h.l; grind
      have p2 : side c d a * side c d b < 0 := by have := h.r; grind
      unfold SeamNum.meet
      simp only [Bool.or_eq_true, Bool.and_eq_true, decide_eq_true_eq]
      exact .inr (.inr (.inr (.inr ⟨p1, p2⟩)))
theorem hits_point {a b c d x : Point} (h1 : on a b x = true) (h2 : on c d x = true) (nab : a ≠ b) (ncd : c ≠ d) : Hits a b c d := by
  obtain ⟨s1, x1, y1⟩ := (on_box a b x).mp h1
  obtain ⟨s2, x2, y2⟩ := (on_box c d x).mp h2
  obtain ⟨u, u0, u1, eu⟩ := (on_part ncd).mp h2
  obtain ⟨t, t0, t1, et⟩ := (on_part nab).mp h1
  have part0 : ∀ {p q v : Rat}, 0 ≤ v → v ≤ 1 → (1 - v) * p + v * q = 0 → p * q ≤ 0 := by
    intro p q v v0 v1 e
    refine mul_not_pos ?_ ?_
    · rintro ⟨hp, hq⟩
      by_cases hv : v = 0
      · rw [hv] at e
        grind
      · have m := Rat.mul_pos (a := v) (b := q) (by grind) hq
        have m2 : 0 ≤ (1 - v) * p := Rat.mul_nonneg (by grind) (by grind)
        grind
    · rintro ⟨hp, hq⟩
      by_cases hv : v = 0
      · rw [hv] at e
        grind
      · have m := Rat.mul_pos (a := v) (b := -q) (by grind) (by grind)
        have m2 : 0 ≤ (1 - v) * -p := Rat.mul_nonneg (by grind) (by grind)
        grind
  refine ⟨off_amid x1 x2, off_amid y1 y2, ?_, ?_⟩
  · rw [eu, side_part] at s1
    exact part0 u0 u1 s1
  · rw [et, side_part] at s2
    exact part0 t0 t1 s2
theorem on_same {a c : Point} (h : on a a c = true) : c = a := by
  unfold on at h
  simpa using h
theorem meet_hits {a b c d : Point} (m : SeamNum.meet a b c d = true) : Hits a b c d := by
  have deg : ∀ {a c d : Point}, SeamNum.meet a a c d = true → Hits a a c d := by
    intro a c d m
    have o : on c d a = true := by
      unfold SeamNum.meet at m
      simp only [Bool.or_eq_true, Bool.and_eq_true, decide_eq_true_eq] at m
      rcases m with m | m | m | m | ⟨m, _⟩
      · rw [← on_same m]; exact on_start _ _
      · rw [← on_same m]; exact on_end _ _
      · exact m
      · exact m
      · rw [side_aa, side_aa] at m
        grind
    obtain ⟨s, x, y⟩ := (on_box c d a).mp o
    exact ⟨(off_self _ _ _).mpr x, (off_self _ _ _).mpr y, by rw [side_aa, side_aa]; grind, by rw [s]; grind⟩
  by_cases hab : a = b
  · subst hab
    exact deg m
  · by_cases hcd : c = d
    · subst hcd
      rw [meet_swap] at m
      exact (deg m).swap
    · obtain ⟨x, h1, h2⟩ := meet_common hab hcd m
      exact hits_point h1 h2 hab hcd
/-- **meeting, by boxes and sides** -/
theorem hits_iff (a b c d : Point) : Hits a b c d ↔ SeamNum.meet a b c d = true := ⟨Hits.meet, meet_hits⟩

/-! ### rows -/
/-- edges that aren't next to one another keep apart -/
def Apart (r : Row) : Prop := ∀ j, j < r.length → ∀ i, i + 2 ≤ j → (j + 1) % r.length ≠ i → SeamNum.meet (at_ r i) (at_ r (i + 1)) (at_ r j) (at_ r (j + 1)) = false
theorem parted_iff {n i j : Nat} (hj : j < n) (hi : i < j) : parted n i j = true ↔ i + 2 ≤ j ∧ (j + 1) % n ≠ i := by
  unfold parted
  have e : (i + 1) % n = i + 1 := Nat.mod_eq_of_lt (by omega)
  rw [e]
  simp only [Bool.and_eq_true, bne_iff_ne, ne_eq]
  omega
theorem simple_apart {r : Row} (h : simple r = true) : Apart r := fun j hj i hi hn => ((simple_once r).mp h).2 j hj i (by omega) ((parted_iff hj (by omega)).mpr ⟨hi, hn⟩)
theorem apart_any {r : Row} (h : Apart r) {i j : Nat} (hi : i < r.length) (hj : j < r.length) (p : parted r.length i j = true) : SeamNum.meet (at_ r i) (at_ r (i + 1)) (at_ r j) (at_ r (j + 1)) = false := by
  rcases Nat.lt_trichotomy i j with k | k | k
  · obtain ⟨a, b⟩ := (parted_iff hj k).mp p
    exact h j hj i a b
  · subst k
    unfold parted at p
    simp at p
  · rw [parted_swap] at p
    obtain ⟨a, b⟩ := (parted_iff hi k).mp p
    rw [meet_swap]
    exact h i hi j a b
theorem at_three (a b c : Point) : at_ [a, b, c] 0 = a ∧ at_ [a, b, c] (0 + 1) = b ∧ at_ [a, b, c] (1 + 1) = c ∧ at_ [a, b, c] (2 + 1) = a ∧ at_ [a, b, c] 1 = b ∧ at_ [a, b, c] 2 = c ∧ at_ [a, b, c] (0 + 2) = c ∧ at_ [a, b, c] (1 + 2) = a ∧ at_ [a, b, c] (2 + 2) = b := by
  refine ⟨?_, ?_, ?_, ?_, ?_, ?_, ?_, ?_, ?_⟩ <;> simp [at_]
theorem area_three (a b c : Point) : area [a, b, c] = side a b c := by
  obtain ⟨e0, e1, e2, e3, _⟩ := at_three a b c
  unfold area edges
  have e : List.range [a, b, c].length = [0, 1, 2] := rfl
  rw [e]
  simp only [List.map_cons, List.map_nil, List.foldl_cons, List.foldl_nil, e0, e1, e2, e3, (at_three a b c).2.2.2.2]
  unfold cross side less cross
  grind
theorem three_row {r : Row} (h : r.length = 3) : ∃ a b c, r = [a, b, c] := by
  match r, h with
  | [a, b, c], _ => exact ⟨a, b, c, rfl⟩
theorem parted_two {n i : Nat} (h4 : 4 ≤ n) (hi : i < n) : parted n i ((i + 2) % n) = true := by
  unfold parted
  simp only [Bool.and_eq_true, bne_iff_ne, ne_eq]
  have e1 : ∀ k, k < 4 → (i + k) % n = if i + k < n then i + k else i + k - n := by
    intro k hk
    split
    · exact Nat.mod_eq_of_lt ‹_›
    · rw [Nat.mod_eq_sub_mod (by omega), Nat.mod_eq_of_lt (by omega)]
  have e2 := e1 2 (by omega)
  have e3 := e1 1 (by omega)
  have e4 := e1 3 (by omega)
  have e5 : ((i + 2) % n + 1) % n = (i + 3) % n := by
    rw [Nat.mod_add_mod]
  rw [e5, e2, e3, e4]
  split <;> split <;> split <;> omega
theorem goes_on {a b c : Point} (hab : a ≠ b) (hbc : b ≠ c) (g : goesBack a b c = true) : on a b c = true ∨ on b c a = true := by
  unfold goesBack at g
  simp only [Bool.and_eq_true, beq_iff_eq, decide_eq_true_eq] at g
  obtain ⟨s, dt⟩ := g
  obtain ⟨t, et⟩ := along hab s
  have c1 : c.1 = a.1 + t * (b.1 - a.1) := by rw [et]; rfl
  have c2 : c.2 = a.2 + t * (b.2 - a.2) := by rw [et]; rfl
  have sq : 0 < (b.1 - a.1) * (b.1 - a.1) + (b.2 - a.2) * (b.2 - a.2) := by
    have q1 := sq_nonneg (b.1 - a.1)
    have q2 := sq_nonneg (b.2 - a.2)
    rcases three ((b.1 - a.1) * (b.1 - a.1) + (b.2 - a.2) * (b.2 - a.2)) 0 with k | k | k
    · grind
    · have := sums_zero k
      exact absurd (Prod.ext (by grind) (by grind)) hab
    · exact k
  have t1 : t ≤ 1 := by
    unfold dot less at dt
    simp only at dt
    rw [c1, c2] at dt
    refine cancel_le sq ?_
    grind
  by_cases t0 : 0 ≤ t
  · exact .inl ((on_part hab).mpr ⟨t, t0, t1, et⟩)
  · right
    refine (on_box b c a).mpr ⟨?_, ?_, ?_⟩
    · rw [et]
      unfold side part cross less plus times
      grind
    · rw [amid_iff, c1]
      have m := mul_not_pos (x := t) (y := (b.1 - a.1) * (b.1 - a.1)) (by grind) (by have := sq_nonneg (b.1 - a.1); grind)
      grind
    · rw [amid_iff, c2]
      have m := mul_not_pos (x := t) (y := (b.2 - a.2) * (b.2 - a.2)) (by grind) (by have := sq_nonneg (b.2 - a.2); grind)
      grind
theorem meet_at {a b c d x : Point} (h1 : on a b x = true) (h2 : on c d x = true) (e : x = a ∨ x = b ∨ x = c ∨ x = d) : SeamNum.meet a b c d = true := by
  unfold SeamNum.meet
  simp only [Bool.or_eq_true]
  rcases e with e | e | e | e
  · subst e; exact .inr (.inr (.inl h2))
  · subst e; exact .inr (.inr (.inr (.inl h2)))
  · subst e; exact .inl h1
  · subst e; exact .inr (.inl h1)
/-- **A row may be, by edges apart and its area** -/
theorem row_apart {r : Row} (h3 : 3 ≤ r.length) (ha : 0 < area r) : simple r = true ↔ Apart r := by
  refine ⟨simple_apart, fun h => ?_⟩
  rw [simple_once]
  refine ⟨?_, fun j hj i hi p => apart_any h (by omega) hj p⟩
  by_cases e3 : r.length = 3
  · obtain ⟨a, b, c, rfl⟩ := three_row e3
    rw [area_three] at ha
    have s1 : side b c a = side a b c := by unfold side cross less; grind
    have s2 : side c a b = side a b c := by unfold side cross less; grind
    have go : ∀ {a b c : Point}, 0 < side a b c → goesBack a b c = false ∧ a ≠ b := by
      intro a b c hs
      constructor
      · unfold goesBack
        rw [Bool.and_eq_false_iff]
        left
        rw [beq_eq_false_iff_ne]
        grind
      · intro e
        rw [e, side_aa] at hs
        grind
    intro i hi
    match i, hi with
    | 0, _ =>
      have q := at_three a b c
      rw [q.1, q.2.1, q.2.2.2.2.2.2.1]
      exact go (a := a) (b := b) (c := c) ha
    | 1, _ =>
      have q := at_three a b c
      rw [q.2.2.2.2.1, q.2.2.1, q.2.2.2.2.2.2.2.1]
      exact go (a := b) (b := c) (c := a) (by rw [s1]; exact ha)
    | 2, _ =>
      have q := at_three a b c
      rw [q.2.2.2.2.2.1, q.2.2.2.1, q.2.2.2.2.2.2.2.2]
      exact go (a := c) (b := a) (c := b) (by rw [s2]; exact ha)
  · have h4 : 4 ≤ r.length := by omega
    have two : ∀ i, i < r.length → SeamNum.meet (at_ r i) (at_ r (i + 1)) (at_ r (i + 2)) (at_ r (i + 3)) = false := by
      intro i hi
      have z := apart_any h hi (Nat.mod_lt (i + 2) (by omega)) (parted_two h4 hi)
      rw [at_mod, at_step] at z
      exact z
    have two' : ∀ i, SeamNum.meet (at_ r i) (at_ r (i + 1)) (at_ r (i + 2)) (at_ r (i + 3)) = false := by
      intro i
      have z := two (i % r.length) (Nat.mod_lt _ (by omega))
      rw [at_mod, at_step, at_step, at_step] at z
      exact z
    -- no edge without a length
    have ne : ∀ i, at_ r (i + 1) ≠ at_ r (i + 2) := by
      intro i e
      have z := two' i
      have m : SeamNum.meet (at_ r i) (at_ r (i + 1)) (at_ r (i + 2)) (at_ r (i + 3)) = true := meet_at (x := at_ r (i + 1)) (on_end _ _) (by rw [e]; exact on_start _ _) (.inr (.inl rfl))
      rw [m] at z
      cases z
    have ne' : ∀ i, at_ r i ≠ at_ r (i + 1) := by
      intro i
      have z := ne (i + r.length - 1)
      have e1 : i + r.length - 1 + 1 = i + r.length := by omega
      have e2 : i + r.length - 1 + 2 = i + 1 + r.length := by omega
      rw [e1, e2, at_add, at_add] at z
      exact z
    intro i hi
    refine ⟨?_, ne' i⟩
    rw [Bool.eq_false_iff]
    intro g
    rcases goes_on (ne' i) (ne' (i + 1)) g with o | o
    · have z := two' i
      have m : SeamNum.meet (at_ r i) (at_ r (i + 1)) (at_ r (i + 2)) (at_ r (i + 3)) = true := meet_at o (on_start _ _) (.inr (.inr (.inl rfl)))
      rw [m] at z
      cases z
    · have z := two' (i + r.length - 1)
      have e1 : i + r.length - 1 + 1 = i + r.length := by omega
      have e2 : i + r.length - 1 + 2 = i + 1 + r.length := by omega
      have e3 : i + r.length - 1 + 3 = i + 2 + r.length := by omega
      rw [e1, e2, e3, at_add, at_add, at_add] at z
      have m : SeamNum.meet (at_ r (i + r.length - 1)) (at_ r i) (at_ r (i + 1)) (at_ r (i + 2)) = true := meet_at (on_end _ _) o (.inr (.inl rfl))
      rw [m] at z
      cases z
end SR
set_option Elab.async false
set_option linter.all false
set_option maxHeartbeats 1000000
/-! # Corners as whole numbers -/
namespace SR
open SeamNum SeamPoly

abbrev IP := Int × Int
/-- P is p times D -/
structure Sc (D : Int) (P : IP) (p : Point) : Prop where
  x : (P.1 : Rat) = D * p.1
  y : (P.2 : Rat) = D * p.2
def sideI (a b c : IP) : Int := (b.1 - a.1) * (c.2 - a.2) - (b.2 - a.2) * (c.1 - a.1)
def offB (a b c d : Int) : Bool := decide (max a b < min c d) || decide (max c d < min a b)
def hitB (a b c d : IP) : Bool := !(offB a.1 b.1 c.1 d.1 || offB a.2 b.2 c.2 d.2) && (decide (sideI a b c * sideI a b d ≤ 0) && decide (sideI c d a * sideI c d b ≤ 0))
section
variable {D : Int} {A B C E : IP} {a b c e : Point}
theorem sc_side (hA : Sc D A a) (hB : Sc D B b) (hC : Sc D C c) : (sideI A B C : Rat) = (D : Rat) * D * side a b c := by
  unfold sideI side cross less
  have := hA.x; have := hA.y; have := hB.x; have := hB.y; have := hC.x; have := hC.y
  simp only [Rat.intCast_sub, Rat.intCast_mul]
  grind
theorem cast_pos {D : Int} (h : 0 < D) : (0 : Rat) < (D : Rat) := by
  have : ((0 : Int) : Rat) < (D : Rat) := Rat.intCast_lt_intCast.mpr h
  exact this
theorem cast_le0 {z : Int} : z ≤ 0 ↔ (z : Rat) ≤ 0 := by
  have : (z : Rat) ≤ ((0 : Int) : Rat) ↔ z ≤ 0 := Rat.intCast_le_intCast
  exact this.symm
theorem sc_sides {z w : Int} {p q : Rat} {D : Int} (hD : 0 < D) (hz : (z : Rat) = (D : Rat) * D * p) (hw : (w : Rat) = (D : Rat) * D * q) : z * w ≤ 0 ↔ p * q ≤ 0 := by
  rw [cast_le0, Rat.intCast_mul, hz, hw]
  have h := cast_pos hD
  have h2 := Rat.mul_pos (Rat.mul_pos h h) (Rat.mul_pos h h)
  have e : (D : Rat) * D * p * (D * D * q) = ((D : Rat) * D * (D * D)) * (p * q) := by grind
  rw [e]
  constructor
  · intro k
    refine cancel_le h2 ?_
    grind
  · intro k
    have m := mul_not_pos (x := (D : Rat) * D * (D * D)) (y := p * q) (by grind) (by grind)
    exact m
theorem sc_lt {z w : Int} {p q : Rat} {D : Int} (hD : 0 < D) (hz : (z : Rat) = D * p) (hw : (w : Rat) = D * q) : z < w ↔ p < q := by
  rw [← Rat.intCast_lt_intCast, hz, hw]
  exact Rat.mul_lt_mul_left (cast_pos hD)
theorem offB_is {x y z w : Int} {p q r s : Rat} (hD : 0 < D) (h1 : (x : Rat) = D * p) (h2 : (y : Rat) = D * q) (h3 : (z : Rat) = D * r) (h4 : (w : Rat) = D * s) : offB x y z w = true ↔ offR p q r s := by
  unfold offB offR
  rw [← sc_lt hD h1 h3, ← sc_lt hD h1 h4, ← sc_lt hD h2 h3, ← sc_lt hD h2 h4, ← sc_lt hD h3 h1, ← sc_lt hD h4 h1, ← sc_lt hD h3 h2, ← sc_lt hD h4 h2]
  simp only [Bool.or_eq_true, decide_eq_true_eq]
  omega
theorem hitB_is (hD : 0 < D) (hA : Sc D A a) (hB : Sc D B b) (hC : Sc D C c) (hE : Sc D E e) : hitB A B C E = SeamNum.meet a b c e := by
  rw [Bool.eq_iff_iff, ← hits_iff]
  unfold hitB
  simp only [Bool.and_eq_true, Bool.not_eq_true', Bool.or_eq_false_iff, decide_eq_true_eq]
  rw [sc_sides hD (sc_side hA hB hC) (sc_side hA hB hE), sc_sides hD (sc_side hC hE hA) (sc_side hC hE hB)]
  have x := offB_is hD hA.x hB.x hC.x hE.x
  have y := offB_is hD hA.y hB.y hC.y hE.y
  rw [← Bool.not_eq_true, ← Bool.not_eq_true, x, y]
  constructor
  · rintro ⟨⟨h1, h2⟩, h3, h4⟩
    exact ⟨h1, h2, h3, h4⟩
  · rintro ⟨h1, h2, h3, h4⟩
    exact ⟨⟨h1, h2⟩, h3, h4⟩
end
/-! ### rows -/
abbrev WRow := List IP
def wAt (W : WRow) (i : Nat) : IP := W.getD (i % W.length) (0, 0)
structure ScR (D : Int) (W : WRow) (r : Row) : Prop where
  pos : 0 < D
  len : W.length = r.length
  at_ : ∀ i, i < r.length → Sc D (W.getD i (0, 0)) (r.getD i origin)
theorem ScR.wAt {D : Int} {W : WRow} {r : Row} (h : ScR D W r) (h0 : 0 < r.length) (i : Nat) : Sc D (wAt W i) (SeamPoly.at_ r i) := by
  unfold SR.wAt SeamPoly.at_
  rw [h.len]
  exact h.at_ _ (Nat.mod_lt _ h0)
def keepsAt (W : WRow) (i j : Nat) : Bool := ((j + 1) % W.length == i) || !hitB (wAt W i) (wAt W (i + 1)) (wAt W j) (wAt W (j + 1))
def Keeps (W : WRow) : Prop := ∀ i, i < W.length → ∀ j, j < W.length → i + 2 ≤ j → keepsAt W i j = true
theorem keeps_is {D : Int} {W : WRow} {r : Row} (h : ScR D W r) (h0 : 0 < r.length) : Keeps W ↔ Apart r := by
  have e : ∀ i j, hitB (wAt W i) (wAt W (i + 1)) (wAt W j) (wAt W (j + 1)) = SeamNum.meet (SeamPoly.at_ r i) (SeamPoly.at_ r (i + 1)) (SeamPoly.at_ r j) (SeamPoly.at_ r (j + 1)) := fun i j => hitB_is h.pos (h.wAt h0 i) (h.wAt h0 _) (h.wAt h0 j) (h.wAt h0 _)
  unfold Keeps Apart keepsAt
  simp only [h.len, e]
  constructor
  · intro k j hj i hi hn
    have z := k i (by omega) j hj hi
    rw [Bool.or_eq_true] at z
    rcases z with z | z
    · exact absurd (beq_iff_eq.mp z) hn
    · simpa using z
  · intro k i hi j hj hij
    rw [Bool.or_eq_true]
    by_cases hn : (j + 1) % r.length = i
    · exact .inl (beq_iff_eq.mpr hn)
    · right
      rw [k j hj i hij hn]
      rfl
def crossI (a b : IP) : Int := a.1 * b.2 - a.2 * b.1
def areaTo (W : WRow) : Nat → Int
  | 0 => 0
  | i + 1 => areaTo W i + crossI (wAt W i) (wAt W (i + 1))
def areaRTo (r : Row) : Nat → Rat
  | 0 => 0
  | i + 1 => areaRTo r i + cross (at_ r i) (at_ r (i + 1))
theorem area_to (r : Row) : area r = areaRTo r r.length := by
  unfold area edges
  have go : ∀ n, ((List.range n).map fun (i : Nat) => (at_ r i, at_ r (i + 1))).foldl (fun (s : Rat) (e : Point × Point) => s + cross e.1 e.2) 0 = areaRTo r n := by
    intro n
    induction n with
    | zero => rfl
    | succ n ih =>
      rw [List.range_succ, List.map_append, List.foldl_append, ih]
      rfl
  exact go _
theorem area_sc {D : Int} {W : WRow} {r : Row} (h : ScR D W r) (h0 : 0 < r.length) : ∀ n, (areaTo W n : Rat) = (D : Rat) * D * areaRTo r n
  | 0 => by
    show ((0 : Int) : Rat) = _
    unfold areaRTo
    grind
  | n + 1 => by
    unfold areaTo areaRTo
    rw [Rat.intCast_add, area_sc h h0 n]
    have a := h.wAt h0 n
    have b := h.wAt h0 (n + 1)
    have := a.x; have := a.y; have := b.x; have := b.y
    unfold crossI cross
    simp only [Rat.intCast_sub, Rat.intCast_mul]
    grind
theorem area_pos {D : Int} {W : WRow} {r : Row} (h : ScR D W r) (h0 : 0 < r.length) : 0 < areaTo W W.length ↔ 0 < area r := by
  rw [area_to, h.len]
  have e := area_sc h h0 r.length
  have hd := cast_pos h.pos
  have h2 := Rat.mul_pos hd hd
  have z : (0 : Int) < areaTo W r.length ↔ (0 : Rat) < (areaTo W r.length : Rat) := by
    have : ((0 : Int) : Rat) < (areaTo W r.length : Rat) ↔ 0 < areaTo W r.length := Rat.intCast_lt_intCast
    exact this.symm
  rw [z, e]
  constructor
  · intro k
    rcases three (areaRTo r r.length) 0 with a | a | a
    · exfalso
      have := Rat.mul_pos h2 (b := -areaRTo r r.length) (by grind)
      grind
    · rw [a] at k
      grind
    · exact a
  · exact fun k => Rat.mul_pos h2 k
/-- **what the program finds of a row** -/
theorem row_found {D : Int} {W : WRow} {r : Row} (h : ScR D W r) (h3 : 3 ≤ r.length) : (Keeps W ∧ 0 < areaTo W W.length) ↔ (simple r = true ∧ 0 < area r) := by
  rw [keeps_is h (by omega), area_pos h (by omega)]
  constructor
  · rintro ⟨a, b⟩
    exact ⟨(row_apart h3 b).mpr a, b⟩
  · rintro ⟨a, b⟩
    exact ⟨(row_apart h3 b).mp a, b⟩
theorem area_rep {D : Int} {W : WRow} {r : Row} (h : ScR D W r) (h0 : 0 < r.length) : Rep (area r) (areaTo W W.length) (D * D) := by
  refine ⟨Int.mul_pos h.pos h.pos, ?_⟩
  rw [area_to, h.len]
  have e := area_sc h h0 r.length
  have hd := cast_pos h.pos
  have hz : (D : Rat) * D ≠ 0 := by have := Rat.mul_pos hd hd; grind
  have k : Rat.divInt (areaTo W r.length) (D * D) = (areaTo W r.length : Rat) / ((D * D : Int) : Rat) := Rat.divInt_eq_div ..
  rw [k, Rat.intCast_mul, e]
  grind
/-! ### what stands below the line of all -/
def below : Row → Int
  | [] => 1
  | p :: r => below r * p.1.den * p.2.den
def belowTo (r : Row) (i : Nat) : Int := (r.take i).foldl (fun (d : Int) (p : Point) => d * p.1.den * p.2.den) 1
theorem belowTo_succ {r : Row} {i : Nat} {p : Point} (h : r[i]? = some p) : belowTo r (i + 1) = belowTo r i * p.1.den * p.2.den := by
  unfold belowTo
  rw [List.take_add_one, h, List.foldl_append]
  rfl
theorem den_ge (q : Rat) : (1 : Int) ≤ q.den := by
  have := q.den_nz
  omega
theorem belowTo_pos (r : Row) : ∀ i, 0 < belowTo r i
  | 0 => by unfold belowTo; simp
  | i + 1 => by
    cases h : r[i]? with
    | none =>
      have : belowTo r (i + 1) = belowTo r i := by unfold belowTo; rw [List.take_add_one, h]; simp
      rw [this]
      exact belowTo_pos r i
    | some p =>
      rw [belowTo_succ h]
      exact Int.mul_pos (Int.mul_pos (belowTo_pos r i) (den_pos _)) (den_pos _)
theorem belowTo_dvd {r : Row} {i k : Nat} {p : Point} (h : r[k]? = some p) : k < i → (p.1.den : Int) ∣ belowTo r i ∧ (p.2.den : Int) ∣ belowTo r i := by
  induction i with
  | zero => intro z; omega
  | succ i ih =>
    intro z
    by_cases e : k = i
    · subst e
      rw [belowTo_succ h]
      exact ⟨Int.dvd_mul_of_dvd_left (Int.dvd_mul_left ..), Int.dvd_mul_left ..⟩
    · have q := ih (by omega)
      cases hi : r[i]? with
      | none =>
        have : belowTo r (i + 1) = belowTo r i := by unfold belowTo; rw [List.take_add_one, hi]; simp
        rw [this]
        exact q
      | some u =>
        rw [belowTo_succ hi]
        exact ⟨Int.dvd_mul_of_dvd_left (Int.dvd_mul_of_dvd_left q.1), Int.dvd_mul_of_dvd_left (Int.dvd_mul_of_dvd_left q.2)⟩
theorem belowTo_bits {r : Row} (hf : ∀ p ∈ r, fitsP p = true) : ∀ i, i ≤ r.length → (belowTo r i).natAbs < 2 ^ (126 * i + 1)
  | 0, _ => by unfold belowTo; simp
  | i + 1, hi => by
    have h : r[i]? = some r[i] := List.getElem?_eq_getElem (by omega)
    rw [belowTo_succ h, Int.natAbs_mul, Int.natAbs_mul]
    have ih := belowTo_bits hf i (by omega)
    obtain ⟨⟨_, b1⟩, ⟨_, b2⟩⟩ := fitsP_bits (hf _ (List.getElem_mem (by omega : i < r.length)))
    have e1 : ((r[i].1.den : Int)).natAbs = r[i].1.den := Int.natAbs_natCast _
    have e2 : ((r[i].2.den : Int)).natAbs = r[i].2.den := Int.natAbs_natCast _
    rw [e1, e2]
    have z := mul_bits (mul_bits ih b1) b2
    have e3 : 126 * i + 1 + 63 + 63 = 126 * (i + 1) + 1 := by omega
    rw [e3] at z
    exact z
/-- a corner as whole numbers -/
def wholeP (D : Int) (p : Point) : IP := (p.1.num * (D / p.1.den), p.2.num * (D / p.2.den))
theorem whole_one {D : Int} {q : Rat} (hd : (q.den : Int) ∣ D) : ((q.num * (D / q.den) : Int) : Rat) = D * q := by
  obtain ⟨k, rfl⟩ := hd
  have hq := den_pos q
  rw [Int.mul_ediv_cancel_left _ (by omega), Rat.intCast_mul, Rat.intCast_mul]
  have e : ((q.den : Int) : Rat) * q = q.num := by
    have z : q = (q.num : Rat) / ((q.den : Int) : Rat) := by
      rw [← Rat.divInt_eq_div]
      exact (Rat.num_divInt_den q).symm
    have nz : ((q.den : Int) : Rat) ≠ 0 := by have := cast_pos hq; grind
    grind
  grind
theorem whole_sc {D : Int} {r : Row} (hD : D = belowTo r r.length) : ScR D (r.map (wholeP D)) r := by
  refine ⟨by rw [hD]; exact belowTo_pos r _, List.length_map _, fun i hi => ?_⟩
  have h : r[i]? = some r[i] := List.getElem?_eq_getElem hi
  obtain ⟨d1, d2⟩ := belowTo_dvd h (i := r.length) hi
  rw [← hD] at d1 d2
  rw [List.getD_eq_getElem?_getD, List.getD_eq_getElem?_getD, List.getElem?_map, h]
  exact ⟨whole_one d1, whole_one d2⟩
theorem whole_bits {D : Int} {q : Rat} {b : Nat} (hq : fits q = true) (hD : D.natAbs < 2 ^ b) (h0 : 0 < D) : (q.num * (D / q.den)).natAbs < 2 ^ (63 + b) := by
  rw [Int.natAbs_mul]
  refine mul_bits (fits_bits hq).1 ?_
  have : (D / q.den).natAbs ≤ D.natAbs := by
    have := Int.ediv_le_self q.den (Int.le_of_lt h0)
    have := Int.ediv_nonneg (Int.le_of_lt h0) (Int.le_of_lt (den_pos q))
    omega
  omega
end SR
set_option Elab.async false
/-! # Hems: how many -/
namespace SR
open SeamNum SeamPoly SeamPattern

theorem hem_is {P : Pattern} (e : Edge) : P.hem e = (decide (e.2 < (P.row e.1).length) && !(decide (e ∈ sewn P.seams))) := by
  unfold Pattern.hem
  have h1 : (P.ends e).isSome = decide (e.2 < (P.row e.1).length) := by
    unfold Pattern.ends
    by_cases h : e.2 < (P.row e.1).length
    · rw [if_pos h, decide_eq_true h]; rfl
    · rw [if_neg h, decide_eq_false h]; rfl
  have h2 : ∀ l : List Seam, (mate l e).isNone = !(decide (e ∈ sewn l)) := by
    intro l
    induction l with
    | nil => rfl
    | cons s l ih =>
      rw [mate_cons, sewn_cons]
      by_cases z : s.1 = e
      · rw [if_pos z]
        simp [z]
      · by_cases w : s.2 = e
        · rw [if_neg z, if_pos w]
          simp [w]
        · rw [if_neg z, if_neg w, ih]
          have z' : ¬ e = s.1 := fun q => z q.symm
          have w' : ¬ e = s.2 := fun q => w q.symm
          simp [z', w']
  rw [h1, partner_mate, h2]
theorem noneTwice_nodup : ∀ {l : List Edge}, noneTwice l = true → l.Nodup
  | [], _ => List.nodup_nil
  | a :: l, h => by
    obtain ⟨h1, h2⟩ := noneTwice_cons h
    exact List.nodup_cons.mpr ⟨h1, noneTwice_nodup h2⟩
theorem sewn_len (l : List Seam) : (sewn l).length = 2 * l.length := by
  induction l with
  | nil => rfl
  | cons s l ih =>
    rw [sewn_cons]
    simp only [List.length_cons]
    omega
theorem edges_nodup (P : Pattern) : P.edges.Nodup := by
  unfold Pattern.edges
  have gen : ∀ l : List Nat, l.Nodup → (l.flatMap fun (k : Nat) => (List.range (P.row k).length).map fun (i : Nat) => ((k, i) : Edge)).Nodup := by
    intro l
    induction l with
    | nil => intro _; exact List.nodup_nil
    | cons k l ih =>
      intro h
      obtain ⟨h1, h2⟩ := List.nodup_cons.mp h
      rw [List.flatMap_cons, List.nodup_append]
      refine ⟨?_, ih h2, ?_⟩
      · have hr : (List.range (P.row k).length).Nodup := List.nodup_range
        exact List.Pairwise.map _ (fun a b hab z => hab (congrArg Prod.snd z)) hr
      · intro a ha b hb z
        obtain ⟨i, _, rfl⟩ := List.mem_map.mp ha
        obtain ⟨j, hj, hb2⟩ := List.mem_flatMap.mp hb
        obtain ⟨i', _, rfl⟩ := List.mem_map.mp hb2
        have : k = j := congrArg Prod.fst z
        exact h1 (this ▸ hj)
  exact gen _ List.nodup_range
theorem filter_split {α : Type} (p : α → Bool) : ∀ l : List α, (l.filter p).length + (l.filter fun a => !p a).length = l.length
  | [] => rfl
  | a :: l => by
    have ih := filter_split p l
    cases h : p a with
    | true =>
      rw [List.filter_cons_of_pos h, List.filter_cons_of_neg (by simp [h])]
      simp only [List.length_cons]
      omega
    | false =>
      rw [List.filter_cons_of_neg (by simp [h]), List.filter_cons_of_pos (by simp [h])]
      simp only [List.length_cons]
      omega
/-- **all edges but the sewn ones** -/
theorem hems_count {P : Pattern} (h : PatFine P) : P.hems.length + 2 * P.seams.length = P.edges.length := by
  unfold Pattern.hems
  have e1 : P.edges.filter P.hem = P.edges.filter fun e => !(decide (e ∈ sewn P.seams)) := by
    apply List.filter_congr
    intro e he
    rw [hem_is, decide_eq_true ((edges_mem e).mp he), Bool.true_and]
  rw [e1]
  have s := filter_split (fun e => decide (e ∈ sewn P.seams)) P.edges
  have nd := noneTwice_nodup h.once
  have inE : ∀ e ∈ sewn P.seams, e ∈ P.edges := by
    intro e he
    obtain ⟨s, hs, hm⟩ := List.mem_flatMap.mp he
    obtain ⟨_, a, b, _⟩ := maySew_in (h.seams s hs)
    rcases List.mem_cons.mp hm with z | z
    · rw [z]; exact (edges_mem _).mpr a
    · rw [List.mem_singleton.mp z]; exact (edges_mem _).mpr b
  have l1 : (P.edges.filter fun e => decide (e ∈ sewn P.seams)).length = (sewn P.seams).length := by
    apply Nat.le_antisymm
    · exact nodup_len _ _ (List.Pairwise.filter _ (edges_nodup P)) fun e he => of_decide_eq_true (List.mem_filter.mp he).2
    · exact nodup_len _ _ nd fun e he => List.mem_filter.mpr ⟨inE e he, decide_eq_true he⟩
  rw [l1, sewn_len] at s
  omega
theorem edges_count (P : Pattern) : P.edges.length = ((P.pieces.map fun p => p.row.length).sum) := by
  unfold Pattern.edges
  rw [List.length_flatMap]
  have e : (List.range P.pieces.length).map (fun k => ((List.range (P.row k).length).map fun (i : Nat) => ((k, i) : Edge)).length) = P.pieces.map fun p => p.row.length := by
    apply List.ext_getElem
    · simp
    · intro i h1 h2
      have hi : i < P.pieces.length := by simpa using h2
      simp only [List.getElem_map, List.getElem_range, List.length_map, List.length_range]
      rw [row_some hi]
  rw [e]
end SR
set_option Elab.async false
set_option linter.all false
set_option maxHeartbeats 1000000
/-! # Strange bytes; numbers' first digits; seams looked at one by one -/
namespace SR
open SeamNum SeamPoly SeamPattern SD

/-! ### bytes that the program doesn't know -/
theorem kn_self : ∀ c d : UInt8, known d = true → (kn c = d ↔ c = d) := by
  intro c d hd
  unfold kn
  have h63 : d ≠ 63 := fun z => by rw [z] at hd; revert hd; decide
  by_cases h : known c = true
  · rw [if_pos h]
  · rw [if_neg h]
    constructor
    · intro z
      exact absurd z.symm h63
    · intro z
      rw [z] at h
      exact absurd hd h
theorem kn_lit {s : Bytes} (hs : ∀ c ∈ s, known c = true) (w : Bytes) : w.map kn = s ↔ w = s := by
  induction s generalizing w with
  | nil => simp
  | cons d s ih =>
    cases w with
    | nil => simp
    | cons c w =>
      rw [List.map_cons, List.cons.injEq, List.cons.injEq, kn_self c d (hs d (List.mem_cons_self ..)), ih (fun c hc => hs c (List.mem_cons_of_mem _ hc)) w]
theorem kn_all {w : Bytes} (h : ∀ c ∈ w, known c = true) : w.map kn = w := (kn_lit h w).mpr rfl
theorem partsB_kn {c : UInt8} (hc : known c = true) : ∀ b : Bytes, partsB c (b.map kn) = (partsB c b).map (List.map kn)
  | [] => rfl
  | x :: r => by
    rw [List.map_cons, partsB, partsB, partsB_kn hc r]
    by_cases h : x = c
    · rw [if_pos ((kn_self x c hc).mpr h), if_pos h]
      rfl
    · rw [if_neg (fun z => h ((kn_self x c hc).mp z)), if_neg h]
      cases partsB c r <;> rfl
theorem wordsOf_kn (b : Bytes) : wordsOf (b.map kn) = (wordsOf b).map (List.map kn) := by
  rw [wordsOf_parts, wordsOf_parts]
  exact partsB_kn (by decide) b
theorem linesOf_kn (b : Bytes) : linesOf (b.map kn) = ((linesOf b).1.map (List.map kn), (linesOf b).2.map kn) := by
  rw [linesOf_parts, linesOf_parts, partsB_kn (by decide) b]
  have hne := partsB_ne 10 b
  generalize partsB 10 b = l at hne
  rw [← List.map_dropLast]
  congr 1
  rw [List.getLastD_eq_getLast?, List.getLastD_eq_getLast?, List.getLast?_map]
  cases l.getLast? <;> rfl
def numByte (c : UInt8) : Bool := isDigit c || (c == 45 || c == 47)
theorem numByte_kn : ∀ c : UInt8, numByte (kn c) = numByte c := all_u8 (p := fun c => numByte (kn c) = numByte c) (by decide +kernel)
theorem numByte_known : ∀ c : UInt8, numByte c = true → known c = true := all_u8 (p := fun c => numByte c = true → known c = true) (by decide +kernel)
theorem digit_kn : ∀ c : UInt8, isDigit (kn c) = isDigit c := all_u8 (p := fun c => isDigit (kn c) = isDigit c) (by decide +kernel)
theorem digit_known : ∀ c : UInt8, isDigit c = true → known c = true := all_u8 (p := fun c => isDigit c = true → known c = true) (by decide +kernel)
theorem kn_alone {f : Bytes → Option α} {p : UInt8 → Bool} (hk : ∀ c, p (kn c) = p c) (hp : ∀ c, p c = true → known c = true) (hf : ∀ w x, f w = some x → ∀ c ∈ w, p c = true) (w : Bytes) : f (w.map kn) = f w := by
  by_cases h : ∀ c ∈ w, p c = true
  · rw [kn_all fun c hc => hp c (h c hc)]
  · have n1 : f w = none := by
      cases e : f w with
      | none => rfl
      | some x => exact absurd (hf w x e) h
    have n2 : f (w.map kn) = none := by
      cases e : f (w.map kn) with
      | none => rfl
      | some x =>
        refine absurd (fun c hc => ?_) h
        rw [← hk c]
        exact hf _ x e _ (List.mem_map.mpr ⟨c, hc, rfl⟩)
    rw [n1, n2]
theorem readNum_kn (w : Bytes) : readNum (w.map kn) = readNum w := kn_alone numByte_kn numByte_known (fun w x h c hc => by
  unfold numByte
  rcases num_bytes h c hc with z | z | z
  · rw [z]; rfl
  · rw [z]; rfl
  · rw [z]; rfl) w
theorem readNat_kn (w : Bytes) : readNat (w.map kn) = readNat w := kn_alone digit_kn digit_known (fun w x h c hc => (readNat_some h).1.2.1 c hc) w
def alnumB (c : UInt8) : Bool := (decide (48 ≤ c) && decide (c ≤ 57)) || ((decide (65 ≤ c) && decide (c ≤ 90)) || (decide (97 ≤ c) && decide (c ≤ 122)))
theorem alnum_kn : ∀ c : UInt8, alnumB (kn c) = alnumB c := all_u8 (p := fun c => alnumB (kn c) = alnumB c) (by decide +kernel)
theorem alnum_known : ∀ c : UInt8, alnumB c = true → known c = true := all_u8 (p := fun c => alnumB c = true → known c = true) (by decide +kernel)
theorem isName_is (w : Bytes) : isName w = (!w.isEmpty && (decide (w.length ≤ 16) && w.all alnumB)) := rfl
theorem isName_kn (w : Bytes) : isName (w.map kn) = isName w := by
  rw [isName_is, isName_is, List.isEmpty_map, List.length_map, List.all_map]
  congr 2
  congr 1
  funext c
  exact alnum_kn c
theorem name_kn {w : Bytes} (h : isName w = true) : w.map kn = w := by
  rw [isName_is] at h
  simp only [Bool.and_eq_true] at h
  exact kn_all fun c hc => alnum_known c (List.all_eq_true.mp h.2.2 c hc)
theorem readPoint_kn (a b : Bytes) : readPoint (a.map kn) (b.map kn) = readPoint a b := by
  unfold readPoint
  rw [readNum_kn, readNum_kn]
theorem end_kn (w : Bytes) : w.map kn = ascii "end" ↔ w = ascii "end" := kn_lit (by decide +kernel) w
theorem piece_kn (w : Bytes) : w.map kn = ascii "piece" ↔ w = ascii "piece" := kn_lit (by decide +kernel) w
theorem seam_kn (w : Bytes) : w.map kn = ascii "seam" ↔ w = ascii "seam" := kn_lit (by decide +kernel) w
theorem readLine_kn (b : Bytes) : readLine (b.map kn) = readLine b := by
  unfold readLine
  rw [wordsOf_kn]
  match wordsOf b with
  | [] => rfl
  | [w] =>
    show (if w.map kn = ascii "end" then some Line.end_ else none) = (if w = ascii "end" then some Line.end_ else none)
    simp only [end_kn]
  | [a, c] =>
    show (readPoint (a.map kn) (c.map kn)).map Line.corner = (readPoint a c).map Line.corner
    rw [readPoint_kn]
  | [a, b, c] => rfl
  | [w, n, a, c] =>
    show (if w.map kn = ascii "piece" ∧ isName (n.map kn) = true then (readPoint (a.map kn) (c.map kn)).map (fun (g : Point) => Line.piece (n.map kn) g) else none) = (if w = ascii "piece" ∧ isName n = true then (readPoint a c).map (fun (g : Point) => Line.piece n g) else none)
    rw [readPoint_kn]
    simp only [piece_kn, isName_kn]
    by_cases h : w = ascii "piece" ∧ isName n = true
    · rw [if_pos h, if_pos h, name_kn h.2]
    · rw [if_neg h, if_neg h]
  | [w, i, j, k, l] =>
    show (if w.map kn = ascii "seam" then (match readNat (i.map kn), readNat (j.map kn), readNat (k.map kn), readNat (l.map kn) with
      | some i, some j, some k, some l => some (Line.seam ((i, j), (k, l)))
      | _, _, _, _ => none) else none) = (if w = ascii "seam" then (match readNat i, readNat j, readNat k, readNat l with
      | some i, some j, some k, some l => some (Line.seam ((i, j), (k, l)))
      | _, _, _, _ => none) else none)
    simp only [seam_kn, readNat_kn]
  | _ :: _ :: _ :: _ :: _ :: _ :: _ => rfl
theorem making_kn : ∀ (l : List Bytes) (n : Nat) (m : Making), making n m (l.map (List.map kn)) = making n m l
  | [], _, _ => rfl
  | b :: r, n, m => by
    rw [List.map_cons, making, making, readLine_kn]
    cases (readLine b).bind m.next with
    | none => rfl
    | some k => exact making_kn r (n + 1) k
theorem readPattern_kn (b : Bytes) : readPattern (b.map kn) = readPattern b := by
  unfold readPattern
  rw [linesOf_kn]
  dsimp only
  rw [making_kn]
  cases making 0 ⟨[], [], false⟩ (linesOf b).1 with
  | error e => rfl
  | ok m => simp only [List.map_eq_nil_iff, List.length_map]

/-! ### first digits -/
/-- the number of the first three digits -/
def trimN (n : Nat) : Nat := natOf ((decimal n).take 3)
theorem natOf_from (b : Bytes) : ∀ n : Nat, b.foldl (fun (n : Nat) (c : UInt8) => 10 * n + (c.toNat - 48)) n = n * 10 ^ b.length + natOf b := by
  induction b with
  | nil => intro n; simp [natOf]
  | cons c r ih =>
    intro n
    unfold natOf
    rw [List.foldl_cons, List.foldl_cons, ih, ih (10 * 0 + (c.toNat - 48)), List.length_cons, Nat.pow_succ]
    grind
theorem natOf_cons (c : UInt8) (r : Bytes) : natOf (c :: r) = (c.toNat - 48) * 10 ^ r.length + natOf r := by
  have z := natOf_from r (10 * 0 + (c.toNat - 48))
  show (c :: r).foldl _ 0 = _
  rw [List.foldl_cons, z]
  simp
theorem digit_toNat : ∀ c : UInt8, isDigit c = true → 48 ≤ c.toNat ∧ c.toNat ≤ 57 := all_u8 (p := fun c => isDigit c = true → 48 ≤ c.toNat ∧ c.toNat ≤ 57) (by decide +kernel)
theorem natOf_lt : ∀ {b : Bytes}, (∀ c ∈ b, isDigit c = true) → natOf b < 10 ^ b.length
  | [], _ => by simp [natOf]
  | c :: r, h => by
    rw [natOf_cons, List.length_cons, Nat.pow_succ]
    have ih := natOf_lt (b := r) fun c hc => h c (List.mem_cons_of_mem _ hc)
    have q := digit_toNat c (h c (List.mem_cons_self ..))
    have : (c.toNat - 48) * 10 ^ r.length ≤ 9 * 10 ^ r.length := Nat.mul_le_mul_right _ (by omega)
    omega
theorem natOf_big {c : UInt8} {r : Bytes} (h : isDigit c = true) (h0 : c ≠ 48) : 10 ^ r.length ≤ natOf (c :: r) := by
  rw [natOf_cons]
  have q := digit_toNat c h
  have : c.toNat ≠ 48 := fun z => h0 (UInt8.toNat_inj.mp (by rw [z]; rfl))
  have : 1 * 10 ^ r.length ≤ (c.toNat - 48) * 10 ^ r.length := Nat.mul_le_mul_right _ (by omega)
  omega
theorem trimN_cases (n : Nat) : trimN n = n ∨ (100 ≤ trimN n ∧ 100 ≤ n) := by
  obtain ⟨hne, hd, h48⟩ := canon_decimal n
  by_cases hl : (decimal n).length ≤ 3
  · left
    unfold trimN
    rw [List.take_of_length_le hl, natOf_decimal]
  · right
    unfold trimN
    have e := natOf_decimal n
    match hb : decimal n, hl, h48, hd, e with
    | c :: r, hl, h48, hd, e =>
      rw [List.length_cons] at hl
      have h0 : c ≠ 48 := by
        rcases h48 with z | z
        · rw [List.cons.injEq] at z
          rw [z.2] at hl
          simp at hl
        · exact z
      have hc := hd c (List.mem_cons_self ..)
      constructor
      · have z := natOf_big (r := r.take 2) hc h0
        have el : (r.take 2).length = 2 := by rw [List.length_take]; omega
        rw [el] at z
        exact z
      · rw [← e]
        have z := natOf_big (r := r) hc h0
        have : 10 ^ 3 ≤ 10 ^ r.length := Nat.pow_le_pow_right (by decide) (by omega)
        omega
theorem trimN_lt {n m : Nat} (hm : m ≤ 100) : trimN n < m ↔ n < m := by
  rcases trimN_cases n with z | z
  · rw [z]
  · omega
theorem trimN_eq {n : Nat} (h : trimN n < 100) : trimN n = n := by
  rcases trimN_cases n with z | z
  · exact z
  · omega
def trimE (e : Edge) : Edge := (trimN e.1, trimN e.2)
def trimS (s : Seam) : Seam := (trimE s.1, trimE s.2)

/-! ### seams, one by one -/
/-- there is such an edge -/
def hasE (ps : List Piece) (e : Edge) : Bool := match ps[e.1]? with
  | some p => decide (e.2 < p.row.length)
  | none => false
def lenOf (ps : List Piece) (e : Edge) : Rat := match ps[e.1]? with
  | some p => square (less (at_ p.row (e.2 + 1)) (at_ p.row e.2))
  | none => 0
def seamsOk (ps : List Piece) : List Seam → List Edge → Bool
  | [], _ => true
  | s :: r, sewn => (hasE ps s.1 && !sewn.contains s.1) && ((hasE ps s.2 && !(sewn ++ [s.1]).contains s.2) && ((lenOf ps s.1 == lenOf ps s.2) && seamsOk ps r (sewn ++ [s.1] ++ [s.2])))
theorem has_ends (ps : List Piece) (ss : List Seam) (e : Edge) : (⟨ps, ss⟩ : Pattern).ends e = if hasE ps e = true then some (at_ ((⟨ps, ss⟩ : Pattern).row e.1) e.2, at_ ((⟨ps, ss⟩ : Pattern).row e.1) (e.2 + 1)) else none := by
  unfold Pattern.ends Pattern.row hasE
  cases h : ps[e.1]? with
  | none => simp
  | some p => simp
theorem maySew_has (ps : List Piece) (ss : List Seam) (s : Seam) : (⟨ps, ss⟩ : Pattern).maySew s = (s.1 != s.2 && (hasE ps s.1 && (hasE ps s.2 && (lenOf ps s.1 == lenOf ps s.2)))) := by
  unfold Pattern.maySew
  congr 1
  rw [has_ends, has_ends]
  by_cases h1 : hasE ps s.1 = true
  · by_cases h2 : hasE ps s.2 = true
    · rw [if_pos h1, if_pos h2, h1, h2]
      show (square (less _ _) == square (less _ _)) = _
      have e1 : lenOf ps s.1 = square (less (at_ ((⟨ps, ss⟩ : Pattern).row s.1.1) (s.1.2 + 1)) (at_ ((⟨ps, ss⟩ : Pattern).row s.1.1) s.1.2)) := by
        unfold lenOf Pattern.row
        unfold hasE at h1
        cases h : ps[s.1.1]? with
        | none => rw [h] at h1; cases h1
        | some p => simp [h]
      have e2 : lenOf ps s.2 = square (less (at_ ((⟨ps, ss⟩ : Pattern).row s.2.1) (s.2.2 + 1)) (at_ ((⟨ps, ss⟩ : Pattern).row s.2.1) s.2.2)) := by
        unfold lenOf Pattern.row
        unfold hasE at h2
        cases h : ps[s.2.1]? with
        | none => rw [h] at h2; cases h2
        | some p => simp [h]
      rw [e1, e2]
      rfl
    · rw [if_pos h1, if_neg h2]
      rw [Bool.not_eq_true] at h2
      rw [h2]
      simp
  · rw [if_neg h1]
    rw [Bool.not_eq_true] at h1
    rw [h1]
    simp
theorem noneTwice_iff : ∀ (l : List Edge), noneTwice l = true ↔ l.Nodup
  | [] => by simp [noneTwice]
  | x :: l => by
    rw [noneTwice, List.nodup_cons, Bool.and_eq_true, noneTwice_iff l]
    simp
theorem seamsOk_is (ps : List Piece) (all : List Seam) : ∀ (ss : List Seam) (sewn : List Edge), sewn.Nodup → (seamsOk ps ss sewn = true ↔ (ss.all (⟨ps, all⟩ : Pattern).maySew = true ∧ (sewn ++ ss.flatMap fun (s : Seam) => [s.1, s.2]).Nodup))
  | [], sewn, h => by simp [seamsOk, h]
  | s :: r, sewn, h => by
    have step : (sewn ++ (s :: r).flatMap fun (s : Seam) => [s.1, s.2]) = (sewn ++ [s.1] ++ [s.2]) ++ r.flatMap fun (s : Seam) => [s.1, s.2] := by
      simp
    rw [seamsOk, List.all_cons, step, Bool.and_eq_true, Bool.and_eq_true, Bool.and_eq_true, Bool.and_eq_true, Bool.and_eq_true, Bool.and_eq_true, maySew_has]
    simp only [Bool.and_eq_true, Bool.not_eq_true', bne_iff_ne, ne_eq]
    constructor
    · rintro ⟨⟨a1, a2⟩, ⟨b1, b2⟩, c, d⟩
      have n1 : s.1 ∉ sewn := fun z => by rw [List.contains_iff_mem.mpr z] at a2; cases a2
      have n2 : s.2 ∉ sewn ++ [s.1] := fun z => by rw [List.contains_iff_mem.mpr z] at b2; cases b2
      have nd1 : (sewn ++ [s.1]).Nodup := by
        rw [List.nodup_append]
        exact ⟨h, by simp, fun x hx y hy e => n1 (by rw [List.mem_singleton.mp hy] at e; rw [← e]; exact hx)⟩
      have nd2 : (sewn ++ [s.1] ++ [s.2]).Nodup := by
        rw [List.nodup_append]
        exact ⟨nd1, by simp, fun x hx y hy e => n2 (by rw [List.mem_singleton.mp hy] at e; rw [← e]; exact hx)⟩
      obtain ⟨q1, q2⟩ := (seamsOk_is ps all r _ nd2).mp d
      refine ⟨⟨⟨fun z => n2 ?_, a1, b1, c⟩, q1⟩, q2⟩
      rw [← z]
      simp
    · rintro ⟨⟨⟨z, a1, b1, c⟩, q1⟩, q2⟩
      have nd2 : (sewn ++ [s.1] ++ [s.2]).Nodup := (List.nodup_append.mp q2).1
      have nd1 := (List.nodup_append.mp nd2).1
      refine ⟨⟨a1, ?_⟩, ⟨b1, ?_⟩, c, (seamsOk_is ps all r _ nd2).mpr ⟨q1, q2⟩⟩
      · rw [Bool.eq_false_iff]
        intro y
        exact (List.nodup_append.mp nd1).2.2 _ (List.contains_iff_mem.mp y) _ (List.mem_singleton.mpr rfl) rfl
      · rw [Bool.eq_false_iff]
        intro y
        exact (List.nodup_append.mp nd2).2.2 _ (List.contains_iff_mem.mp y) _ (List.mem_singleton.mpr rfl) rfl
theorem seamsOk_all (ps : List Piece) (ss : List Seam) : seamsOk ps ss [] = (ss.all (⟨ps, ss⟩ : Pattern).maySew && noneTwice (⟨ps, ss⟩ : Pattern).sewn) := by
  rw [Bool.eq_iff_iff, seamsOk_is ps ss ss [] List.nodup_nil, Bool.and_eq_true, noneTwice_iff]
  rfl
/-- a seam of edges past all is none, however its digits go on -/
theorem has_trim {ps : List Piece} (h8 : ps.length ≤ 8) (h16 : ∀ p ∈ ps, p.row.length ≤ 16) (e : Edge) : (hasE ps (trimE e) = true → trimE e = e) ∧ (hasE ps e = true → trimE e = e) := by
  have go : ∀ f : Edge, hasE ps f = true → f.1 < 8 ∧ f.2 < 16 := by
    intro f hf
    unfold hasE at hf
    cases h : ps[f.1]? with
    | none => rw [h] at hf; cases hf
    | some p =>
      rw [h] at hf
      have := (List.getElem?_eq_some_iff.mp h).1
      have := h16 p (List.mem_of_getElem? h)
      have := of_decide_eq_true hf
      omega
  constructor
  · intro hf
    obtain ⟨a, b⟩ := go _ hf
    exact Prod.ext (trimN_eq (by show trimN e.1 < 100; exact Nat.lt_trans a (by decide))) (trimN_eq (by show trimN e.2 < 100; exact Nat.lt_trans b (by decide)))
  · intro hf
    obtain ⟨a, b⟩ := go _ hf
    exact Prod.ext (trimN_eq ((trimN_lt (by decide)).mpr (by omega))) (trimN_eq ((trimN_lt (by decide)).mpr (by omega)))
theorem has_trimE {ps : List Piece} (h8 : ps.length ≤ 8) (h16 : ∀ p ∈ ps, p.row.length ≤ 16) (e : Edge) : hasE ps (trimE e) = hasE ps e := by
  obtain ⟨a, b⟩ := has_trim h8 h16 e
  by_cases h : hasE ps e = true
  · rw [b h]
  · by_cases k : hasE ps (trimE e) = true
    · exact absurd (by rw [a k] at k; exact k) h
    · rw [Bool.not_eq_true] at h k
      rw [h, k]
theorem seams_trim {ps : List Piece} (h8 : ps.length ≤ 8) (h16 : ∀ p ∈ ps, p.row.length ≤ 16) : ∀ (ss : List Seam) (sewn : List Edge), seamsOk ps (ss.map trimS) sewn = seamsOk ps ss sewn ∧ (seamsOk ps ss sewn = true → ss.map trimS = ss)
  | [], sewn => ⟨rfl, fun _ => rfl⟩
  | s :: r, sewn => by
    rw [List.map_cons]
    unfold seamsOk
    have e1 : (trimS s).1 = trimE s.1 := rfl
    have e2 : (trimS s).2 = trimE s.2 := rfl
    rw [e1, e2, has_trimE h8 h16, has_trimE h8 h16]
    by_cases h1 : hasE ps s.1 = true
    · by_cases h2 : hasE ps s.2 = true
      · have t1 := (has_trim h8 h16 s.1).2 h1
        have t2 := (has_trim h8 h16 s.2).2 h2
        rw [t1, t2, h1, h2]
        obtain ⟨q1, q2⟩ := seams_trim h8 h16 r (sewn ++ [s.1] ++ [s.2])
        rw [q1]
        refine ⟨rfl, fun z => ?_⟩
        simp only [Bool.and_eq_true] at z
        rw [q2 z.2.2.2]
        congr 1
        exact Prod.ext t1 t2
      · rw [Bool.not_eq_true] at h2
        rw [h2]
        constructor
        · simp
        · simp
    · rw [Bool.not_eq_true] at h1
      rw [h1]
      constructor
      · simp
      · simp
end SR
set_option Elab.async false
set_option linter.all false
set_option maxRecDepth 100000
/-! # int(text) of up to 4300 digits -/
namespace SDX
open PySem PySem.Spec PySem.Calls PySem.NumText PyProof.Rows PySem.W PySem.W.KIN

set_option maxHeartbeats 4000000 in
theorem wp_textL {M : Model} {A : Around} {E : Value → Shared → Prop} {s : Shared} {Q : Value → Shared → Prop} {v : Value} {text : List Nat} {n : Int}
    (hn : s.heap.NoDigits) (hs : ¬ (text.takeWhile (· != 0)).length ≤ 640) (hr : (int_private% "readNumeral") 4300 10 (text.takeWhile (· != 0)) = (int_private% "Numeral.value") n)
    (ha : ((text.takeWhile (· != 0)).length == text.length) = true) (h : Q (.int n s.toks) { s with toks := s.toks + 1 }) :
    wpAny M A ((int_private% "intFromText") v text 10) Q E s := by
  obtain ⟨mc, hns, hnone⟩ := hn
  obtain ⟨hp, g, d, tk, os⟩ := s
  repeat (any_goals (first
    | assumption
    | ((with_reducible refine wpAny_nsGet hns ?_); rw [hnone]; dsimp only)
    | (with_reducible refine wpAny_ite_false (decide_eq_false hs) ?_)
    | (with_reducible refine wpAny_ite_true (decide_eq_true ha) ?_)
    | wp_step))
  all_goals (try rw [hr])
  all_goals (try dsimp only)
  repeat (any_goals (first
    | assumption
    | (with_reducible refine wpAny_ite_true (decide_eq_true ha) ?_)
    | wp_step))

structure Hid (p : Prop) : Prop where
  out : p
set_option maxHeartbeats 4000000 in
theorem meets_textL {x : PySem.Str} {u : Tok} {n : Int} (hz : x.length ≤ sizeLine) (hl : ¬ (numSeenOf x).length ≤ 640) (hn : PySem.intText? x = some n) :
    Meets (Builtin.«int.__new__» ⟨[.type "int", .str x u], []⟩) (fun _ R s => s.heap.NoDigits ∧ R (.ok (.ret (.int n s.toks))) { s with toks := s.toks + 1 }) :=
  Meets.of_wp fun prog w A R s h0 => by
    obtain ⟨hD, h⟩ := h0
    obtain ⟨hp, g, d, tk, os⟩ := s
    have f1 := F.conv_sub_int
    have f2 := F.madeHere_int
    have f3 := str_int
    have f4 := str_idx
    have f5 := str_trunc
    have f6 : typeOf (.str x u) = pure (.type "str") := rfl
    have hr : (int_private% "readNumeral") 4300 10 (numSeenOf x) = (int_private% "Numeral.value") n ∧ ((numSeenOf x).length == (numTextOf x).length) = true := by
      rcases read4300 x hz with ⟨m, h1, h2, h3⟩ | ⟨h1, _⟩
      · rw [hn] at h1
        injection h1 with h1
        subst h1
        exact ⟨h3, h2⟩
      · rw [hn] at h1
        cases h1
    have hk := Hid.mk (And.intro hl hr)
    have hD2 := Hid.mk hD
    clear hl hr hn hD
    repeat (any_goals (first
      | assumption
      | ((with_reducible show wpAny _ _ ((int_private% "intFromText") _ _ _) _ _ _); refine wp_textL hD2.out hk.out.1 hk.out.2.1 hk.out.2.2 ?_)
      | wp_step))
    all_goals first | exact ⟨_, rfl, h⟩ | skip
set_option maxHeartbeats 4000000 in
theorem gives_textS {x : PySem.Str} {u : Tok} {n : Int} (hs : (numSeenOf x).length ≤ 640) (hr : (int_private% "readNumeral") 0 10 (numSeenOf x) = (int_private% "Numeral.value") n ∧ ((numSeenOf x).length == (numTextOf x).length) = true) : Gives (Builtin.«int.__new__» ⟨[.type "int", .str x u], []⟩) (.int n) :=
  .of_wp fun M A E s Q h => by
    obtain ⟨hp, g, d, tk, os⟩ := s
    have f1 := F.conv_sub_int
    have f2 := F.madeHere_int
    have f3 := str_int
    have f4 := str_idx
    have f5 := str_trunc
    have f6 : typeOf (.str x u) = pure (.type "str") := rfl
    have hk := Hid.mk (And.intro hs hr)
    clear hs hr
    repeat (any_goals (first
      | assumption
      | ((with_reducible show wpAny _ _ ((int_private% "intFromText") _ _ _) _ _ _); refine wp_text hk.out.1 hk.out.2.1 hk.out.2.2 ?_)
      | wp_step))
    all_goals first | exact ⟨_, rfl, h⟩ | skip
section
variable {prog : Program} {w : World} {A : Around} {E : Value → Shared → Prop} {s : Shared} {Q : Value → Shared → Prop} {x : PySem.Str} {t : Tok} {n : Int}
theorem call_textL (hD : s.heap.NoDigits) (hn : PySem.intText? x = some n) (hl : x.length ≤ sizeLine) (h : Q (.int n s.toks) { s with toks := s.toks + 1 }) : wpAny (model prog w) A (call (.type "int") [.str x t]) Q E s := by
  by_cases hs : (numSeenOf x).length ≤ 640
  · have hr : (int_private% "readNumeral") 0 10 (numSeenOf x) = (int_private% "Numeral.value") n ∧ ((numSeenOf x).length == (numTextOf x).length) = true := by
      rcases read0 x hs with ⟨m, h1, h2, h3⟩ | ⟨h1, _⟩
      · rw [hn] at h1
        injection h1 with h1
        subst h1
        exact ⟨h3, h2⟩
      · rw [hn] at h1
        cases h1
    exact call_int_1 (gives_textS hs hr).meets (show (Made.int n).post _ s from ⟨rfl, h⟩)
  · exact call_int_1 (meets_textL hl hs hn) ⟨hD, rfl, h⟩
end
open L2
/-- int(text), of a text that is a number, however long up to 4300 digits -/
theorem call_int_strL {X : Cx} (hD : X.base.NoDigits) : CallR X (.type "int") (fun xs H Q => ∃ a n, xs = [.str a] ∧ PySem.intText? a = some n ∧ a.length ≤ sizeLine ∧ Q (.int n) H) := by
  intro pins s σ H xs us Q I rs h
  obtain ⟨a, n, rfl, hn, hl, h⟩ := h
  cases rs with
  | cons r1 rs =>
    cases rs
    obtain ⟨t, rfl⟩ := r1
    exact call_textL (hD.keeps I.bk) hn hl ⟨.int n, H, I.tok _, ⟨_, rfl⟩, h⟩
end SDX
set_option Elab.async false
set_option linter.all false
set_option maxRecDepth 100000
/-! # Numbers' texts: int(..), str(..) by bytes -/
namespace SDX
open PySem PySem.NumText SeamNum SeamPattern SD SR

/-- bytes as a text -/
abbrev bt (b : SeamNum.Bytes) : Str := ⟨(b.map UInt8.toNat).toArray⟩
theorem bt_list (b : SeamNum.Bytes) : (bt b).cps.toList = b.map UInt8.toNat := by simp
theorem bt_len (b : SeamNum.Bytes) : (bt b).length = b.length := by
  show (b.map UInt8.toNat).toArray.size = _
  simp
theorem ext_list {x y : Str} (h : x.cps.toList = y.cps.toList) : x = y := by
  obtain ⟨⟨a⟩⟩ := x
  obtain ⟨⟨b⟩⟩ := y
  have : a = b := h
  rw [this]
theorem all_digits {b : SeamNum.Bytes} (h : ∀ c ∈ b, isDigit c = true) : AllDigits (b.map UInt8.toNat) := by
  intro c hc
  obtain ⟨d, hd, rfl⟩ := List.mem_map.mp hc
  exact isDigit_iff (h d hd)
theorem val_fold : ∀ (b : SeamNum.Bytes) (n : Nat), (b.map UInt8.toNat).foldl (fun acc c => acc * 10 + (c - 48)) n = b.foldl step10 n
  | [], _ => rfl
  | c :: r, n => by
    rw [List.map_cons, List.foldl_cons, List.foldl_cons, val_fold r]
    congr 1
    unfold step10
    omega
theorem val_is (b : SeamNum.Bytes) : digitsVal (b.map UInt8.toNat) = natOf b := val_fold b 0
/-- int(text) of digits -/
theorem int_bt {b : SeamNum.Bytes} (h : ∀ c ∈ b, isDigit c = true) (hne : b ≠ []) (hl : b.length ≤ 4300) : intText? (bt b) = some ((natOf b : Nat) : Int) := by
  have q := intText_digits (x := bt b) (by rw [bt_list]; exact all_digits h) (by rw [bt_list]; intro z; exact hne (List.map_eq_nil_iff.mp z)) (by rw [bt_len]; exact hl)
  rw [bt_list, val_is] at q
  exact q
/-- int(text) of digits behind a - -/
theorem int_neg {b : SeamNum.Bytes} (h : ∀ c ∈ b, isDigit c = true) (hne : b ≠ []) (hl : b.length < 4300) : intText? (bt (45 :: b)) = some (-((natOf b : Nat) : Int)) := by
  have q := intText_neg (x := bt (45 :: b)) (cs := b.map UInt8.toNat) (by rw [bt_list]; rfl) (all_digits h) (fun z => hne (List.map_eq_nil_iff.mp z)) (by rw [bt_len, List.length_cons]; omega)
  rw [val_is] at q
  exact q
theorem digit_byte : ∀ {c : Char}, c.isDigit = true → (UInt8.ofNat c.toNat).toNat = c.toNat := by
  intro c h
  have r : c.toNat ≤ 57 := by
    unfold Char.isDigit at h
    simp only [Bool.and_eq_true, decide_eq_true_eq, UInt32.le_iff_toNat_le] at h
    exact h.2
  rw [UInt8.toNat_ofNat']
  omega
theorem dec_list (n : Nat) : (decimal n).map UInt8.toNat = (Nat.toDigits 10 n).map Char.toNat := by
  unfold decimal
  rw [List.map_map]
  apply List.map_congr_left
  intro c hc
  exact digit_byte (Nat.isDigit_of_mem_toDigits (by decide) (by decide) hc)
/-- str(n) -/
theorem str_nat (n : Nat) : Str.ofString (toString ((n : Nat) : Int)) = bt (decimal n) := by
  apply ext_list
  rw [bt_list, dec_list]
  exact PySem.W.KIN.signs_num n
theorem str_neg {n : Nat} (h : n ≠ 0) : Str.ofString (toString (-((n : Nat) : Int))) = bt (45 :: decimal n) := by
  obtain ⟨m, rfl⟩ := Nat.exists_eq_succ_of_ne_zero h
  apply ext_list
  rw [bt_list, List.map_cons, dec_list]
  have e : (toString (-((m.succ : Nat) : Int))) = "-" ++ Nat.repr m.succ := rfl
  rw [e, PyProof.Rows.signs_ofString, String.toList_append, List.map_append, Nat.toList_repr]
  rfl
/-- str of a whole number -/
theorem str_int (z : Int) : Str.ofString (toString z) = bt ((if z < 0 then [45] else []) ++ decimal z.natAbs) := by
  by_cases h : z < 0
  · rw [if_pos h]
    have e : z = -((z.natAbs : Nat) : Int) := by omega
    have q := str_neg (n := z.natAbs) (by omega)
    rw [← e] at q
    exact q
  · rw [if_neg h]
    have e : z = ((z.natAbs : Nat) : Int) := by omega
    have q := str_nat z.natAbs
    rw [← e] at q
    exact q
end SDX
set_option Elab.async false
set_option linter.all false
set_option maxRecDepth 100000
/-! # // by a divisor of any size -/
namespace SDX
open PySem PySem.Spec PyProof.Rows L2

/-- there is room for a division of great numbers: asked of the context alone -/
structure DivRoom (X : Cx) : Prop where
  seer : X.base.NoSeer
  tree : X.prog.given.tree = none
  top : ∃ e l, X.stack = e :: l ∧ e.scope.isGenerator = false ∧ e.scope.isCoroutine = false ∧ e.builtins = builtinsNs ∧ e.globals = mainGlobals
  depth : X.A.depth + Builtin.pylongFrames < recursionLimit
/-- of a def's body -/
theorem DivRoom.of {X : Cx} (ok : X.Ok) (seer : X.base.NoSeer) (tree : X.prog.given.tree = none) (st : X.stack = X.env :: X.outer) (g : X.env.scope.isGenerator = false) (c : X.env.scope.isCoroutine = false) (d : X.A.depth + Builtin.pylongFrames < recursionLimit) : DivRoom X :=
  ⟨seer, tree, ⟨X.env, X.outer, st, g, c, ok.blt, ok.glob⟩, d⟩
theorem DivRoom.room {X : Cx} (D : DivRoom X) {pins : List (Addr × Obj)} {σ : List (Option V)} {H : Hp} {s : Shared} (I : Inv X pins σ H s) : PylongRoom (model X.prog X.w) X.A s := by
  obtain ⟨e, l, h1, h2, h3, h4, h5⟩ := D.top
  exact PylongRoom.of I.nolimit D.depth (SeerAt.of (D.seer.keeps I.bk) D.tree (by rw [I.ok.frames, h1]) h2 h3 h4 h5)
/-- a // b, the divisor not 0 -/
theorem op_fdivP {X : Cx} (D : DivRoom X) : OpR X (binaryOp .FloorDiv) (rI (fun _ j => j ≠ 0) fun i j => .int (i.fdiv j)) := by
  intro pins s σ H x y v u Q I rx ry h
  obtain ⟨i, j, rfl, rfl, hc, q⟩ := h
  obtain ⟨t, rfl⟩ := rx
  obtain ⟨t', rfl⟩ := ry
  exact floordiv_int hc ⟨.int (i.fdiv j), H, I.tok _, ⟨_, rfl⟩, q⟩ (.inr (D.room I))
/-- a // b, the divisor above 0 -/
theorem op_fdivQ {X : Cx} (D : DivRoom X) : OpR X (binaryOp .FloorDiv) (rI (fun _ j => 0 < j) fun i j => .int (i / j)) := by
  intro pins s σ H x y v u Q I rx ry h
  obtain ⟨i, j, rfl, rfl, hc, q⟩ := h
  obtain ⟨t, rfl⟩ := rx
  obtain ⟨t', rfl⟩ := ry
  have hj : (0 : Int) < j := hc
  exact floordiv_int (by omega) ⟨.int (i / j), H, I.tok _, ⟨_, by rw [Int.fdiv_eq_ediv_of_nonneg i (by omega)]⟩, q⟩ (.inr (D.room I))
theorem iop_fdivP {X : Cx} (D : DivRoom X) : OpR X (inplaceOp .FloorDiv) (rI (fun _ j => j ≠ 0) fun i j => .int (i.fdiv j)) := by
  intro pins s σ H x y v u Q I rx ry h
  obtain ⟨i, j, rfl, rfl, hc, q⟩ := h
  obtain ⟨t, rfl⟩ := rx
  obtain ⟨t', rfl⟩ := ry
  exact ifloordiv_int hc ⟨.int (i.fdiv j), H, I.tok _, ⟨_, rfl⟩, q⟩ (.inr (D.room I))
theorem iop_fdivQ {X : Cx} (D : DivRoom X) : OpR X (inplaceOp .FloorDiv) (rI (fun _ j => 0 < j) fun i j => .int (i / j)) := by
  intro pins s σ H x y v u Q I rx ry h
  obtain ⟨i, j, rfl, rfl, hc, q⟩ := h
  obtain ⟨t, rfl⟩ := rx
  obtain ⟨t', rfl⟩ := ry
  have hj : (0 : Int) < j := hc
  exact ifloordiv_int (by omega) ⟨.int (i / j), H, I.tok _, ⟨_, by rw [Int.fdiv_eq_ediv_of_nonneg i (by omega)]⟩, q⟩ (.inr (D.room I))
/-- a * b, where the whole stays below a hundred million bits -/
def CMulV (i j : Int) : Prop := i.natAbs.log2 + j.natAbs.log2 < 134000000
theorem CMulV.ok {i j : Int} (h : CMulV i j) : IntMulOk i j := by
  have b : ∀ x : Int, Builtin.Int.intBits x ≤ x.natAbs.log2 + 1 := fun x => by
    unfold Builtin.Int.intBits
    split <;> omega
  have h1 := b i
  have h2 := b j
  have h3 : i.natAbs.log2 + j.natAbs.log2 < 134000000 := h
  have e : bitsLine = 134217728 := by decide
  unfold IntMulOk
  intro z
  rw [Bool.and_eq_true] at z
  have z3 := of_decide_eq_true (show decide _ = true from z.2)
  unfold Builtin.Int.intTooBig at z
  have z4 := of_decide_eq_true z.2
  rw [e] at z4
  omega
theorem op_mulV {X : Cx} : OpR X (binaryOp .Mult) (rI CMulV fun i j => .int (i * j)) := opI fun _ _ _ _ _ _ _ hc q => mul_int q hc.ok
theorem iop_mulV {X : Cx} : OpR X (inplaceOp .Mult) (rI CMulV fun i j => .int (i * j)) := opI fun _ _ _ _ _ _ _ hc q => imul_int q hc.ok
end SDX
set_option Elab.async false
set_option linter.all false
set_option maxRecDepth 100000
/-! # max of two in a tuple; a list beside an empty one; how many texts differ -/
namespace SDX
open PySem PySem.Spec PyProof.Rows L2
/-- max(t), t a tuple of two ints -/
def rMaxT2 (K : PySem.W.Frag) : List V → Hp → VK → Prop := fun vs H Q => ∃ (a : Addr) (m n : Int), vs = [V.ref a] ∧ SqT K H a [V.int m, V.int n] ∧ Q (.int (max m n)) H
theorem cr_maxT2 {X : Cx} (hc : X.calm = true) (hu : X.A.units + 64 < cLine) : CallR X (.builtin "max") (rMaxT2 X.K) := by
  intro pins s σ H vs us Q I r h
  obtain ⟨a, m, n, rfl, ht, q⟩ := h
  obtain ⟨its, rv, hp, _⟩ := I.tuple ht
  rw [Vals.ref1 r]
  cases rv with
  | cons r1 r2 =>
    cases r2 with
    | cons r2 r3 =>
      cases r3
      obtain ⟨t1, rfl⟩ := r1
      obtain ⟨t2, rfl⟩ := r2
      refine PySem.W.max_tuple_datum (α := Int) (x := m) (xs := [n]) (I.ok.hd hc) hp ⟨_, .cons (.int m t1) (.cons (.int n t2) .nil)⟩ (Nat.lt_of_le_of_lt (Nat.add_le_add_left (show PySem.W.Datum.depth Int ≤ 1 from by decide) _) (by omega)) fun i v h' tk _ hv hk => ?_
      obtain ⟨as, hr⟩ := hv
      have e : PySem.W.maxOf m [n] = max m n := by
        show (if decide (m < n) = true then n else m) = max m n
        by_cases z : m < n
        · rw [if_pos (by simpa using z)]
          omega
        · rw [if_neg (by simpa using z)]
          omega
      rw [e] at hr
      have hr' : Reads h' v (.int (max m n)) as := hr
      cases hr'
      exact ⟨.int (max m n), H, I.kept hk, ⟨_, rfl⟩, q⟩
/-- xs != [], whatever the items are -/
def rNeNil (K : PySem.W.Frag) : R2 := fun x y H Q => ∃ (p q : Addr) (xs : List V), x = .ref p ∧ y = .ref q ∧ SqL K H p xs ∧ SqL K H q [] ∧ Q (.bl (!xs.isEmpty)) H
def rEqNil (K : PySem.W.Frag) : R2 := fun x y H Q => ∃ (p q : Addr) (xs : List V), x = .ref p ∧ y = .ref q ∧ SqL K H p xs ∧ SqL K H q [] ∧ Q (.bl xs.isEmpty) H
section
variable {X : Cx}
theorem op_neNil (hu : X.A.units + 64 < cLine) : OpR X (compareOp .NotEq) (rNeNil X.K) := by
  intro pins s σ H x y v u Q I rx ry h
  obtain ⟨p, q, xs, rfl, rfl, h1, h2, k⟩ := h
  cases rx
  cases ry
  obtain ⟨us, r1, p1, _⟩ := I.list h1
  obtain ⟨ws, r2, p2, _⟩ := I.list h2
  cases r2
  cases xs with
  | nil =>
    cases r1
    refine SeqAt.RcNeAt.lists (e := fun _ => true) p1.isList p2.isList rfl (by omega) (fun j h1 h2 => absurd h1 (Nat.not_lt_zero j)) X.prog X.w _ _ ?_
    exact ⟨.bl false, H, I, rfl, k⟩
  | cons z zs =>
    cases r1
    refine SeqAt.RcNeAt.lists_lengths p1.isList p2.isList (by simp) (by omega) X.prog X.w _ _ ?_
    exact ⟨.bl true, H, I, rfl, k⟩
theorem op_eqNil (hu : X.A.units + 64 < cLine) : OpR X (compareOp .Eq) (rEqNil X.K) := by
  intro pins s σ H x y v u Q I rx ry h
  obtain ⟨p, q, xs, rfl, rfl, h1, h2, k⟩ := h
  cases rx
  cases ry
  obtain ⟨us, r1, p1, _⟩ := I.list h1
  obtain ⟨ws, r2, p2, _⟩ := I.list h2
  cases r2
  cases xs with
  | nil =>
    cases r1
    refine SeqAt.RcAt.lists (e := fun _ => true) p1.isList p2.isList rfl (by omega) (fun j h1 h2 => absurd h1 (Nat.not_lt_zero j)) X.prog X.w _ _ ?_
    exact ⟨.bl true, H, I, rfl, k⟩
  | cons z zs =>
    cases r1
    refine SeqAt.RcAt.lists_lengths p1.isList p2.isList (by simp) (by omega) X.prog X.w _ _ ?_
    exact ⟨.bl false, H, I, rfl, k⟩
end
/-! ### how many differ -/
/-- of the first i, those that differ -/
def unlike (xs : List Str) : Nat → Nat
  | 0 => 0
  | i + 1 => if (xs.take i).any (· == xs.getD i Str.empty) = true then unlike xs i else unlike xs i + 1
theorem unlike_le (xs : List Str) : ∀ i, unlike xs i ≤ i
  | 0 => Nat.le_refl 0
  | i + 1 => by
    have := unlike_le xs i
    unfold unlike
    split <;> omega
theorem unlike_all (xs : List Str) : ∀ i, i ≤ xs.length → (unlike xs i = i ↔ (xs.take i).Nodup)
  | 0, _ => by simp [unlike]
  | i + 1, hi => by
    have ih := unlike_all xs i (by omega)
    have le := unlike_le xs i
    have e : xs[i]? = some (xs.getD i Str.empty) := by
      rw [List.getD_eq_getElem?_getD, List.getElem?_eq_getElem (by omega)]
      rfl
    rw [List.take_add_one, e]
    unfold unlike
    simp only [Option.toList_some]
    rw [List.nodup_append]
    by_cases c : (xs.take i).any (· == xs.getD i Str.empty) = true
    · rw [if_pos c]
      constructor
      · intro z
        omega
      · rintro ⟨_, _, z⟩
        obtain ⟨y, hy, ey⟩ := List.any_eq_true.mp c
        exact absurd (beq_iff_eq.mp ey) (z y hy _ (List.mem_singleton.mpr rfl))
    · rw [if_neg c]
      constructor
      · intro z
        refine ⟨ih.mp (by omega), by simp, fun y hy b hb ey => ?_⟩
        rw [List.mem_singleton.mp hb] at ey
        exact c (List.any_eq_true.mpr ⟨y, hy, beq_iff_eq.mpr ey⟩)
      · rintro ⟨z, _, _⟩
        rw [ih.mpr z]
theorem unlike_any {xs : List Str} {i : Nat} (hi : i < xs.length) (k : Str) : (xs.take (i + 1)).any (· == k) = ((xs.take i).any (· == k) || decide (k = xs.getD i Str.empty)) := by
  have e : xs[i]? = some (xs.getD i Str.empty) := by
    rw [List.getD_eq_getElem?_getD, List.getElem?_eq_getElem hi]
    rfl
  rw [List.take_add_one, e, List.any_append]
  congr 1
  simp only [Option.toList_some, List.any_cons, List.any_nil, Bool.or_false]
  by_cases z : k = xs.getD i Str.empty
  · rw [z]
    simp
  · rw [decide_eq_false z, beq_eq_false_iff_ne]
    exact fun y => z y.symm
section
variable {pg : Program} {w : World} {Ar : Around} {Rz : Result → Shared → Prop} {It : Addr} {fp wr : List Addr} {G : Array GenState → Array GenState → Prop} {n : Nat} {Pz : Nat → Value → Prop} {St : Nat → Shared → Prop}
abbrev differ (pg : Program) (w : World) (h : Heap) (S : Addr) (xs : List Str) (i : Nat) : Prop := h.SetOf (PySem.strKind pg w) S (fun key => (xs.take i).any (· == key)) (unlike xs i)
theorem differ_keep {h h' : Heap} {S : Addr} {xs : List Str} {i : Nat} (d : differ pg w h S xs i) (k : ∀ o, h.get? S = some o → h'.get? S = some o) : differ pg w h' S xs i := by
  obtain ⟨o, es, ep, tb, ho, r⟩ := d
  exact ⟨o, es, ep, tb, k o ho, r⟩
theorem loop_texts (Wk : WalksS pg w Ar.in1 It fp wr G n Pz St) (S : Addr) (hSf : S ∉ fp) (xs : List Str) (hsz : xs.length = n) (h64 : n < 64)
    (hval : ∀ i v, Pz i v → ∃ t, v = .str (xs.getD i Str.empty) t) (k : Nat) :
    ∀ (i : Nat) (s : Shared), n - i = k → i ≤ n → St i s → differ pg w s.heap S xs i →
      (∀ s', Moved (S :: wr) G s s' → differ pg w s'.heap S xs n → Rz (.ok (.ret .none)) s') →
      codeAny (model pg w) Ar (.builtin "set.update.loop" ⟨[.ref S, .ref It], []⟩) Rz s := by
  have hSw : S ∉ wr := fun z => hSf (Wk.sub _ z)
  have more : ∀ b ∈ wr, b ∈ S :: wr := fun b z => List.mem_cons_of_mem _ z
  induction k with
  | zero =>
    intro i s hk hi hst hS fin
    obtain rfl : i = n := by omega
    refine codeAny_builtin PyProof.Rows.F.entry_set_update_loop ?_
    rw [Around.under_plainId PyProof.Rows.F.plain_set_update_loop _]
    refine wpAny_bind (m := pyNext (.ref It)) (Wk.done s _ _ hst fun s' mv => ?_)
    refine wpAny_pure (fin s' (mv.mono more) (differ_keep hS fun o z => mv.heap S _ hSw z))
  | succ k ih =>
    intro i s hk hi hst hS fin
    have hlt : i < n := by omega
    refine codeAny_builtin PyProof.Rows.F.entry_set_update_loop ?_
    rw [Around.under_plainId PyProof.Rows.F.plain_set_update_loop _]
    refine wpAny_bind (m := pyNext (.ref It)) (Wk.item i s _ _ hlt hst fun v s' hP hst' mv => ?_)
    obtain ⟨t, rfl⟩ := hval i v hP
    have hS' := differ_keep (h' := s'.heap) hS fun o z => mv.heap S _ hSw z
    refine wpAny_bind (m := holding [Value.str (xs.getD i Str.empty) t] (setAdd S (.str (xs.getD i Str.empty) t))) (wpAny_holding ?_)
    unfold setAdd
    refine wpAny_holding ?_
    refine wpAny_bind ((PySem.strKind pg w).pyHash (k := xs.getD i Str.empty) (strKind_is _ _ _ _) ?_)
    have le := unlike_le xs i
    refine wpAny_setAddHashed_of (knd := PySem.strKind pg w) (s := { s' with toks := s'.toks + 1 }) (strKind_is _ _ _ _) rfl hS' (by unfold scanBound; omega) fun h' touched hS2 => ?_
    have hSi : differ pg w h' S xs (i + 1) := SetOf_congr hS2 (fun key => (unlike_any (by omega) key).symm) (by show (if _ then _ else _) = unlike xs (i + 1); rw [unlike])
    refine wpAny_pure ⟨plainId_quiet PyProof.Rows.F.plain_set_update_loop _, ih (i + 1) _ (by omega) hlt (Wk.frame _ s' _ _ hst' (Nat.le_succ _) fun b z o e => ?_) hSi fun s'' mv2 hS3 => ?_⟩
    · rw [touched.2 b fun y => hSf (by rw [← y]; exact z)]
      exact e
    · refine fin s'' (Moved.trans Wk.gtrans ((mv.mono more).then_heap (Nat.le_succ _) fun b o z e => ?_) mv2) hS3
      rw [touched.2 b fun y => z (by rw [y]; exact List.mem_cons_self)]
      exact e
end
section
variable {pg : Program} {w : World} {Ar : Around} {Ez : Value → Shared → Prop} {s : Shared}
/-- what set(..) gives -/
def Built (pg : Program) (w : World) (s : Shared) (xs : List Str) (h' : Heap) : Prop := differ pg w h' s.heap.objs.size xs xs.length ∧ ∀ b o, b < s.heap.objs.size → s.heap.get? b = some o → h'.get? b = some o
abbrev freshSet (led : Bool) : Obj := { cls := .type "set", dict := none, data := .set #[] 0 (.fresh 0 0 led) }
set_option maxHeartbeats 4000000 in
theorem call_set_texts {l : Addr} {its : Array Value} {xs : List Str} {Qz : Value → Shared → Prop} (hh : Ar.handled = none) (hl : s.heap.IsList l its) (hi : PyProof.Rows.StrsAre its.toList xs) (h64 : xs.length < 64)
    (hq : ∀ (h' : Heap) (tk : Nat), Built pg w s xs h' → Qz (.ref s.heap.objs.size) { s with heap := h', toks := tk }) : wpAny (model pg w) Ar (call (.type "set") [.ref l]) Qz Ez s := by
  obtain ⟨cz, tz, hmro⟩ := PySem.F.called_set.mro
  have q1 := PySem.F.called_set.made
  have q2 := PySem.F.called_set.sub
  refine wpAny_call (codeAny_of_tree (show wpAny _ _ (callAny (.type "set") _) _ _ _ from ?_))
  refine wpAny_pure ⟨Code.quiet_builtin _ (by decide +kernel), codeAny_builtin PySem.F.entry_type_call ?_⟩
  rw [Around.under_plain (weight_type_call_type "set" [.ref l] []) rfl]
  have q3 := PySem.F.called_set.notType
  have q4 := PySem.F.called_set.canCreate
  have q5 := PySem.F.typeCall_set_1 (.ref l)
  repeat (any_goals (first | assumption | wp_step))
  refine codeAny_mono (code_set_new_1 (.ref l) (E := Ez) (Q₁ := fun ob s1 => ∃ led : Bool, ob = .ref s.heap.objs.size ∧ s1 = { s with heap := s.heap.push (freshSet led) }) fun led => ⟨led, rfl, rfl⟩) fun r1 s1 hr1 => ?_
  cases r1 with
  | error e => exact hr1
  | ok fl =>
    cases fl with
    | ret obj =>
      obtain ⟨led, rfl, rfl⟩ := hr1
      have at0 : (s.heap.push (freshSet led)).get? s.heap.objs.size = some (freshSet led) := Heap.get?_push_size _ rfl
      have ty0 : Shared.TypeIs { s with heap := s.heap.push (freshSet led) } (.ref s.heap.objs.size) "set" := ⟨_, at0, rfl⟩
      have q6 := PySem.F.called_set.init.lookup
      have q7 := PySem.F.called_set.init.bind (.ref s.heap.objs.size)
      repeat (any_goals (first | assumption | wp_step))
      refine codeAny_mono (codeAny_call_builtin (R := wants (fun r s2 => r = .none ∧ ∃ h' tk, s2 = { s with heap := h', toks := tk } ∧ Built pg w s xs h') Ez) PySem.F.called_set.init.plain PySem.F.entry_set_init (check_set_init_1 ty0 ?_)) fun r2 s2 hr2 => ?_
      · obtain ⟨⟨lc, ld, lo, ls⟩, hol, hcl, nl, hdl⟩ := id hl
        simp only at hcl hdl
        subst hcl
        subst hdl
        have at1 : (s.heap.push (freshSet led)).get? l = some { cls := .type "list", dict := ld, data := .seq its nl, slots := ls } := Heap.get?_push_of_some _ hol
        have q8 := PySem.F.sub_list_set
        have q9 := PySem.F.sub_list_frozenset
        have ne1 : (Value.type "list" == Value.type "dict") = false := by decide
        have hl1 : (s.heap.push (freshSet led)).IsList l its := ⟨_, at1, rfl, nl, rfl⟩
        unfold Builtin.«set.__init__» noKeywords Builtin.Frozenset.updateFrom
        generalize hPI : pyIter = walked
        wp_walk
        subst hPI
        refine wpAny_pyIter_list hl1 (wpAny_bind (wpAny_runValue ?_))
        have ltl : l < s.heap.objs.size := Heap.lt_size hol
        have hh3 : Ar.in1.in1.in1.handled = none := by simp [hh]
        have sz : (s.heap.push (freshSet led)).objs.size = s.heap.objs.size + 1 := Heap.size_push ..
        have nel : l ≠ (s.heap.push (freshSet led)).objs.size := by rw [sz]; exact Nat.ne_of_lt (Nat.lt_succ_of_lt ltl)
        have apart : s.heap.objs.size ∉ [(s.heap.push (freshSet led)).objs.size, l] := by
          rw [sz]
          simp only [List.mem_cons, List.not_mem_nil, or_false, not_or]
          exact ⟨Nat.ne_of_lt (Nat.lt_succ_self _), fun y => Nat.ne_of_lt ltl y.symm⟩
        have len : xs.length = its.size := by rw [← StrsAre.len_eq hi, Array.length_toList]
        have each : ∀ (i : Nat) (v : Value), its[i]? = some v → ∃ t, v = .str (xs.getD i Str.empty) t := fun i v hv => SS.strs_at hi i v (by rw [Array.getElem?_toList]; exact hv)
        refine loop_texts ((Walks.list hh3 _ l nel its).toS) s.heap.objs.size apart xs len (by omega) each (its.size - 0) 0 _ (by omega) (Nat.zero_le _) ⟨⟨_, Heap.get?_push_size _ rfl, rfl, rfl⟩, (hl1.push _)⟩ ?first ?last
        case first =>
          refine SetOf_congr ((PyProof.Rows.setObjOf_fresh (knd := PySem.strKind pg w) led).setOf (h := (s.heap.push (freshSet led)).push { cls := .type "list_iterator", data := .fields #[.ref l, .int 0 0] }) (a := s.heap.objs.size) (Heap.get?_push_of_some _ at0) (by unfold scanBound; omega)) (fun _ => rfl) rfl
        case last =>
          intro s' mv hS'
          obtain ⟨h', g', d', tk', os'⟩ := s'
          obtain rfl : g' = s.gens := mv.gens
          obtain rfl : d' = s.drawn := mv.drawn
          obtain rfl : os' = s.os := mv.os
          refine wpAny_pure (show wpAny _ _ (ret Value.none) _ _ _ from wpAny_pure ⟨rfl, h', tk', rfl, by rw [len]; exact hS', fun b o hb e => ?_⟩)
          refine mv.heap b o ?_ (Heap.get?_push_of_some _ (Heap.get?_push_of_some _ e))
          rw [sz]
          simp only [List.mem_cons, List.not_mem_nil, or_false, not_or]
          exact ⟨Nat.ne_of_lt hb, Nat.ne_of_lt (Nat.lt_succ_of_lt hb)⟩
      · cases r2 with
        | error e => exact hr2
        | ok fl2 =>
          cases fl2 with
          | ret r =>
            obtain ⟨rfl, h', tk, rfl, bt⟩ := hr2
            repeat (any_goals (first | assumption | wp_step))
            exact hq _ _ bt
          | _ => exact hr2.elim
    | _ => exact hr1.elim
end
/-- len(set(texts)) -/
def tLenTexts (K : PySem.W.Frag) (ta : TE) : TE := fun σ H Q => ta σ H fun x H1 => ∃ (l : Addr) (xs : List Str), x = .ref l ∧ SqL K H1 l (xs.map V.str) ∧ xs.length < 64 ∧ ∀ n : Nat, n ≤ xs.length → (n = xs.length ↔ xs.Nodup) → Q (.int n) H1
theorem pe_lenTexts {X : Cx} {a : Expr} {ta : TE} {p p2 q pos : Pos} (hc : X.calm = true) (g1 : Gl X "len") (m1 : X.mg "len" = none) (g2 : Gl X "set") (m2 : X.mg "set" = none) (ha : PE X a ta)
    (na : starEach [a] X.env = (false, eval a X.env) :: starEach [] X.env := by rfl) : PE X (.Call (.Name "len" p) [.Call (.Name "set" p2) [a] [] q] [] pos) (tLenTexts X.K ta) := by
  refine ⟨fun pins s σ H Q I h => Call_ (ld_blt I g1 m1 boot_len (PyProof.Rows.callWith_builtin1 (PyProof.Rows.args_cons (Call_ (ld_blt I g2 m2 boot_set ?_)) rfl) rfl rfl))⟩
  refine PyProof.Rows.callWith_type1 (PyProof.Rows.args_cons (thn (ha.run pins s σ H _ I h) fun v s1 ⟨x, H1, I1, r1, z⟩ => PyProof.Rows.args_nil ?_) na) na rfl
  obtain ⟨l, xs, rfl, hs, h64, z⟩ := z
  cases r1
  obtain ⟨its, r, pl, _⟩ := I1.list hs
  refine call_set_texts (xs := xs) (I1.ok.hd hc) pl.isList (by simpa using strsAre_of r) h64 fun h' tk bt => PyProof.Rows.args_nil ?_
  obtain ⟨⟨o, es, ep, t, ho, hex, hd, _, _, _, hf, hn⟩, keep⟩ := bt
  have I2 : Inv X pins σ H1 { s1 with heap := h', toks := tk } := I1.kept fun b o e => keep b o (Heap.lt_size e) e
  have le := unlike_le xs xs.length
  refine call_len_set ho hex hd hf (by rw [hn]; omega) ⟨.int (unlike xs xs.length), H1, I2.tok _, ⟨_, by rw [hn]⟩, z _ le ?_⟩
  have q := unlike_all xs xs.length (Nat.le_refl _)
  rw [List.take_length] at q
  exact q
end SDX
set_option Elab.async false
set_option linter.all false
set_option maxRecDepth 100000
/-! # // of any size within a def; * by bits -/
namespace SDX
open PySem PySem.Spec PyProof.Rows L2
/-- what the machine's start says of great divisions -/
structure Far (P : Program) (base : Heap) : Prop where
  seer : base.NoSeer
  tree : P.given.tree = none
/-- a // b within a def -/
theorem op_fdivR {X : Cx} (F : Far X.prog X.base) (hr : Room 32 X.A) (st : X.stack = X.env :: X.outer := by rfl) (g : X.env.scope.isGenerator = false := by rfl) (c : X.env.scope.isCoroutine = false := by rfl) : OpR X (binaryOp .FloorDiv) (rI (fun _ j => 0 < j) fun i j => .int (i / j)) := by
  intro pins s σ H x y v u Q I rx ry h
  exact op_fdivQ (DivRoom.of I.ok F.seer F.tree st g c (by have := hr.dp; have e : Builtin.pylongFrames = 100 := rfl; omega)) pins s σ H x y v u Q I rx ry h
theorem log2_le {n b : Nat} (h : n < 2 ^ b) : n.log2 ≤ b := by
  by_cases h0 : n = 0
  · subst h0
    show Nat.log2 0 ≤ b
    have : Nat.log2 0 = 0 := by decide
    omega
  · have := (Nat.log2_lt h0).mpr h
    omega
theorem mulV {i j : Int} {a b : Nat} (ha : i.natAbs < 2 ^ a) (hb : j.natAbs < 2 ^ b) (h : a + b ≤ 133000000) : CMulV i j := by
  have h1 := log2_le ha
  have h2 := log2_le hb
  show _ < 134000000
  omega
end SDX
set_option Elab.async false
set_option linter.all false
set_option maxRecDepth 100000
set_option maxHeartbeats 4000000
set_option exponentiation.threshold 100000
/-! # exact.py -/
namespace SDP
open PySem PySem.Spec PyProof.Rows L2 SDX SD TL SR
open SeamNum (Bytes fits FINE)
open SeamPattern (numText)

/-- two ints at p -/
def two (n d : Int) : HO := .tup [.int n, .int d]
def Tw (H : Hp) (v : V) (n d : Int) : Prop := ∃ a, v = .ref a ∧ H a = some (two n d)
theorem Tw.of {H : Hp} {p : Addr} {n d : Int} (h : H p = some (two n d)) : Tw H (.ref p) n d := ⟨p, rfl, h⟩
/-- a number's tuple -/
def Nm (H : Hp) (v : V) (q : Rat) : Prop := Tw H v q.num q.den
section
variable {P : Program} {w : World} {K : PySem.W.Frag} {mg : Str → Option Value} {base : Heap}
theorem Tw.same {H H' : Hp} {v : V} {n d : Int} (h : Tw H v n d) (s : Same H H') : Tw H' v n d := by
  obtain ⟨a, e, q⟩ := h
  exact ⟨a, e, s _ _ q⟩
theorem Tw.kp {M : List Addr} {H H' : Hp} {v : V} {n d : Int} (h : Tw H v n d) (k : Kp M H H') : Tw H' v n d := by
  obtain ⟨a, e, q⟩ := h
  exact ⟨a, e, k _ _ q (.inr rfl)⟩
def spNeg (K : PySem.W.Frag) : Sp := fun vs H Q _ => ∃ v n d, vs = [v] ∧ Tw H v n d ∧ ∀ p, H p = none → Q (.ref p) (upd H p (two (-n) d))
theorem scNeg : FnScope ["a"] ["a"] (defScope S_negative) := ⟨rfl, rfl, rfl, by decide +kernel, rfl, by decide +kernel, by decide +kernel⟩
theorem ok_neg {f : Addr} {fd : FuncData} (F : Fn1 K mg "negative" S_negative ["a"] f fd) : FnOk P w K mg base CX0 1 f fd ["a"] (spNeg K) := by
  refine F.F.ok scNeg (fun vs H Q E h => ?_) (fun cdv A outer s H vs Q E hr h => ?_)
  · obtain ⟨v, n, d, rfl, _⟩ := h
    rfl
  obtain ⟨v, n, d, rfl, ⟨a, rfl, ht⟩, q⟩ := h
  refine ⟨_, pss_one (ps_ret (pe_tup (pa_cons (pe_un un_neg (pe_ix ix_tup (pv 0) pe_int (fun _ _ => rfl))) (pa_cons (pe_ix ix_tup (pv 0) pe_int (fun _ _ => rfl)) pa_nil)))), ?_⟩
  refine ⟨_, rfl, a, _, 0, .int n, rfl, rfl, SqT.of ht, atI_nat (j := 0) rfl, n, rfl, ?_⟩
  refine ⟨_, rfl, a, _, 1, .int d, rfl, rfl, SqT.of ht, atI_nat (j := 1) rfl, by show 2 ≤ sizeLine; decide, fun p hp => ?_⟩
  exact q p hp
/-- + - * of two fractions -/
def spTwoF (K : PySem.W.Frag) (g : Int → Int → Int → Int → Int × Int) : Sp := fun vs H Q _ => ∃ v u n d m e b c, vs = [v, u] ∧ Tw H v n d ∧ Tw H u m e ∧ n.natAbs < 2 ^ b ∧ d.natAbs < 2 ^ b ∧ m.natAbs < 2 ^ c ∧ e.natAbs < 2 ^ c ∧ b + c ≤ 133000000 ∧
  ∀ p, H p = none → Q (.ref p) (upd H p (two (g n d m e).1 (g n d m e).2))
theorem scPlus : FnScope ["a", "b"] ["a", "b"] (defScope S_plus) := ⟨rfl, rfl, rfl, by decide +kernel, rfl, by decide +kernel, by decide +kernel⟩
theorem ok_plus {f : Addr} {fd : FuncData} (F : Fn1 K mg "plus" S_plus ["a", "b"] f fd) : FnOk P w K mg base CX0 1 f fd ["a", "b"] (spTwoF K fun n d m e => (n * e + m * d, d * e)) := by
  refine F.F.ok scPlus (fun vs H Q E h => ?_) (fun cdv A outer s H vs Q E hr h => ?_)
  · obtain ⟨v, u, n, d, m, e, b, c, rfl, _⟩ := h
    rfl
  obtain ⟨v, u, n, d, m, e, b, c, rfl, ⟨a1, rfl, h1⟩, ⟨a2, rfl, h2⟩, z1, z2, z3, z4, hz, q⟩ := h
  refine ⟨_, pss_one (ps_ret (pe_tup (pa_cons (pe_op op_add (pe_op op_mulV (pe_ix ix_tup (pv 0) pe_int (fun _ _ => rfl)) (pe_ix ix_tup (pv 1) pe_int (fun _ _ => rfl))) (pe_op op_mulV (pe_ix ix_tup (pv 1) pe_int (fun _ _ => rfl)) (pe_ix ix_tup (pv 0) pe_int (fun _ _ => rfl))))
    (pa_cons (pe_op op_mulV (pe_ix ix_tup (pv 0) pe_int (fun _ _ => rfl)) (pe_ix ix_tup (pv 1) pe_int (fun _ _ => rfl))) pa_nil)))), ?_⟩
  refine ⟨_, rfl, a1, _, 0, .int n, rfl, rfl, SqT.of h1, atI_nat (j := 0) rfl, _, rfl, a2, _, 1, .int e, rfl, rfl, SqT.of h2, atI_nat (j := 1) rfl, n, e, rfl, rfl, mulV z1 z4 hz, ?_⟩
  refine ⟨_, rfl, a2, _, 0, .int m, rfl, rfl, SqT.of h2, atI_nat (j := 0) rfl, _, rfl, a1, _, 1, .int d, rfl, rfl, SqT.of h1, atI_nat (j := 1) rfl, m, d, rfl, rfl, mulV z3 z2 (by omega), ?_⟩
  refine ⟨_, _, rfl, rfl, ?_⟩
  refine ⟨_, rfl, a1, _, 1, .int d, rfl, rfl, SqT.of h1, atI_nat (j := 1) rfl, _, rfl, a2, _, 1, .int e, rfl, rfl, SqT.of h2, atI_nat (j := 1) rfl, d, e, rfl, rfl, mulV z2 z4 hz, by show 2 ≤ sizeLine; decide, fun p hp => ?_⟩
  exact q p hp
theorem scMinus : FnScope ["a", "b"] ["a", "b"] (defScope S_minus) := ⟨rfl, rfl, rfl, by decide +kernel, rfl, by decide +kernel, by decide +kernel⟩
theorem ok_minus {f : Addr} {fd : FuncData} (F : Fn1 K mg "minus" S_minus ["a", "b"] f fd) : FnOk P w K mg base CX0 1 f fd ["a", "b"] (spTwoF K fun n d m e => (n * e - m * d, d * e)) := by
  refine F.F.ok scMinus (fun vs H Q E h => ?_) (fun cdv A outer s H vs Q E hr h => ?_)
  · obtain ⟨v, u, n, d, m, e, b, c, rfl, _⟩ := h
    rfl
  obtain ⟨v, u, n, d, m, e, b, c, rfl, ⟨a1, rfl, h1⟩, ⟨a2, rfl, h2⟩, z1, z2, z3, z4, hz, q⟩ := h
  refine ⟨_, pss_one (ps_ret (pe_tup (pa_cons (pe_op op_sub (pe_op op_mulV (pe_ix ix_tup (pv 0) pe_int (fun _ _ => rfl)) (pe_ix ix_tup (pv 1) pe_int (fun _ _ => rfl))) (pe_op op_mulV (pe_ix ix_tup (pv 1) pe_int (fun _ _ => rfl)) (pe_ix ix_tup (pv 0) pe_int (fun _ _ => rfl))))
    (pa_cons (pe_op op_mulV (pe_ix ix_tup (pv 0) pe_int (fun _ _ => rfl)) (pe_ix ix_tup (pv 1) pe_int (fun _ _ => rfl))) pa_nil)))), ?_⟩
  refine ⟨_, rfl, a1, _, 0, .int n, rfl, rfl, SqT.of h1, atI_nat (j := 0) rfl, _, rfl, a2, _, 1, .int e, rfl, rfl, SqT.of h2, atI_nat (j := 1) rfl, n, e, rfl, rfl, mulV z1 z4 hz, ?_⟩
  refine ⟨_, rfl, a2, _, 0, .int m, rfl, rfl, SqT.of h2, atI_nat (j := 0) rfl, _, rfl, a1, _, 1, .int d, rfl, rfl, SqT.of h1, atI_nat (j := 1) rfl, m, d, rfl, rfl, mulV z3 z2 (by omega), ?_⟩
  refine ⟨_, _, rfl, rfl, ?_⟩
  refine ⟨_, rfl, a1, _, 1, .int d, rfl, rfl, SqT.of h1, atI_nat (j := 1) rfl, _, rfl, a2, _, 1, .int e, rfl, rfl, SqT.of h2, atI_nat (j := 1) rfl, d, e, rfl, rfl, mulV z2 z4 hz, by show 2 ≤ sizeLine; decide, fun p hp => ?_⟩
  exact q p hp
theorem scTimes : FnScope ["a", "b"] ["a", "b"] (defScope S_times) := ⟨rfl, rfl, rfl, by decide +kernel, rfl, by decide +kernel, by decide +kernel⟩
theorem ok_times {f : Addr} {fd : FuncData} (F : Fn1 K mg "times" S_times ["a", "b"] f fd) : FnOk P w K mg base CX0 1 f fd ["a", "b"] (spTwoF K fun n d m e => (n * m, d * e)) := by
  refine F.F.ok scTimes (fun vs H Q E h => ?_) (fun cdv A outer s H vs Q E hr h => ?_)
  · obtain ⟨v, u, n, d, m, e, b, c, rfl, _⟩ := h
    rfl
  obtain ⟨v, u, n, d, m, e, b, c, rfl, ⟨a1, rfl, h1⟩, ⟨a2, rfl, h2⟩, z1, z2, z3, z4, hz, q⟩ := h
  refine ⟨_, pss_one (ps_ret (pe_tup (pa_cons (pe_op op_mulV (pe_ix ix_tup (pv 0) pe_int (fun _ _ => rfl)) (pe_ix ix_tup (pv 1) pe_int (fun _ _ => rfl)))
    (pa_cons (pe_op op_mulV (pe_ix ix_tup (pv 0) pe_int (fun _ _ => rfl)) (pe_ix ix_tup (pv 1) pe_int (fun _ _ => rfl))) pa_nil)))), ?_⟩
  refine ⟨_, rfl, a1, _, 0, .int n, rfl, rfl, SqT.of h1, atI_nat (j := 0) rfl, _, rfl, a2, _, 0, .int m, rfl, rfl, SqT.of h2, atI_nat (j := 0) rfl, n, m, rfl, rfl, mulV z1 z3 hz, ?_⟩
  refine ⟨_, rfl, a1, _, 1, .int d, rfl, rfl, SqT.of h1, atI_nat (j := 1) rfl, _, rfl, a2, _, 1, .int e, rfl, rfl, SqT.of h2, atI_nat (j := 1) rfl, d, e, rfl, rfl, mulV z2 z4 hz, by show 2 ≤ sizeLine; decide, fun p hp => ?_⟩
  exact q p hp
def spAlike (K : PySem.W.Frag) : Sp := fun vs H Q _ => ∃ v u n d m e b c, vs = [v, u] ∧ Tw H v n d ∧ Tw H u m e ∧ n.natAbs < 2 ^ b ∧ d.natAbs < 2 ^ b ∧ m.natAbs < 2 ^ c ∧ e.natAbs < 2 ^ c ∧ b + c ≤ 133000000 ∧ Q (.bl (decide (n * e = m * d))) H
theorem scAlike : FnScope ["a", "b"] ["a", "b"] (defScope S_alike) := ⟨rfl, rfl, rfl, by decide +kernel, rfl, by decide +kernel, by decide +kernel⟩
theorem ok_alike {f : Addr} {fd : FuncData} (F : Fn1 K mg "alike" S_alike ["a", "b"] f fd) : FnOk P w K mg base CX0 1 f fd ["a", "b"] (spAlike K) := by
  refine F.F.ok scAlike (fun vs H Q E h => ?_) (fun cdv A outer s H vs Q E hr h => ?_)
  · obtain ⟨v, u, n, d, m, e, b, c, rfl, _⟩ := h
    rfl
  obtain ⟨v, u, n, d, m, e, b, c, rfl, ⟨a1, rfl, h1⟩, ⟨a2, rfl, h2⟩, z1, z2, z3, z4, hz, q⟩ := h
  refine ⟨_, pss_one (ps_ret (pe_cmpR op_eq (pe_op op_mulV (pe_ix ix_tup (pv 0) pe_int (fun _ _ => rfl)) (pe_ix ix_tup (pv 1) pe_int (fun _ _ => rfl))) (pe_op op_mulV (pe_ix ix_tup (pv 1) pe_int (fun _ _ => rfl)) (pe_ix ix_tup (pv 0) pe_int (fun _ _ => rfl))) (nomark _))), ?_⟩
  refine ⟨_, rfl, a1, _, 0, .int n, rfl, rfl, SqT.of h1, atI_nat (j := 0) rfl, _, rfl, a2, _, 1, .int e, rfl, rfl, SqT.of h2, atI_nat (j := 1) rfl, n, e, rfl, rfl, mulV z1 z4 hz, ?_⟩
  refine ⟨_, rfl, a2, _, 0, .int m, rfl, rfl, SqT.of h2, atI_nat (j := 0) rfl, _, rfl, a1, _, 1, .int d, rfl, rfl, SqT.of h1, atI_nat (j := 1) rfl, m, d, rfl, rfl, mulV z3 z2 (by omega), rfl, ?_⟩
  have e1 : decide (V.int (n * e) = V.int (m * d)) = decide (n * e = m * d) := by
    by_cases z : n * e = m * d
    · rw [z]
      simp
    · rw [decide_eq_false z]
      exact decide_eq_false fun y => z (by injection y)
  rw [e1]
  exact q
/-! ### lowest -/
def BIG : Nat := 8500
def spLow (K : PySem.W.Frag) : Sp := fun vs H Q _ => ∃ v n d q, vs = [v] ∧ Tw H v n d ∧ Rep q n d ∧ n.natAbs < 2 ^ BIG ∧ d.natAbs < 2 ^ BIG ∧
  (∀ H' p, Same H H' → H p = none → fits q = true → H' p = some (two q.num q.den) → Q (.ref p) H') ∧ (∀ H', Same H H' → fits q = false → Q .non H')
structure LowT (K : PySem.W.Frag) (mg : Str → Option Value) (P : Program) (base : Heap) (fL fN : Addr) (dL dN : FuncData) : Prop where
  L : Fn1 K mg "lowest" S_lowest ["number"] fL dL
  N : Fn1 K mg "negative" S_negative ["a"] fN dN
  abs : mg "abs" = none
  max : mg "max" = none
  FI : Gi mg "FINEST" 4611686018427387904
theorem scLow : FnScope ["number", "upper", "under", "last", "convergent", "whole", "further", "rest"] ["number"] (defScope S_lowest) := ⟨rfl, rfl, rfl, by decide +kernel, rfl, by decide +kernel, by decide +kernel⟩
theorem ok_low {fL fN : Addr} {dL dN : FuncData} (T : LowT K mg P base fL fN dL dN) : FnOk P w K mg base CX0 33 fL dL ["number"] (spLow K) := by
  refine T.L.F.ok scLow (fun vs H Q E h => ?_) (fun cdv A outer s H vs Q E hr h => ?_)
  · obtain ⟨v, n, d, q, rfl, _⟩ := h
    rfl
  obtain ⟨v, n, d, q, rfl, ⟨a, rfl, ht⟩, hrep, hn, hd, good, bad⟩ := h
  have hr1 : Room 1 _ := hr.mono (by decide)
  have dpos := hrep.1
  refine ⟨_, pss_cons (ps_set (i := 1) scLow.nd rfl (Or.inl rfl) (pe_callB call_abs rfl T.abs (by decide +kernel) (pa_cons (pe_ix ix_tup (pv 0) pe_int (fun _ _ => rfl)) pa_nil)))
    (pss_cons (ps_set (i := 2) scLow.nd rfl (Or.inl rfl) (pe_ix ix_tup (pv 0) pe_int (fun _ _ => rfl)))
    (pss_cons (ps_set (i := 3) scLow.nd rfl (Or.inl rfl) (pe_tup (pa_cons pe_int (pa_cons pe_int pa_nil))))
    (pss_cons (ps_set (i := 4) scLow.nd rfl (Or.inl rfl) (pe_tup (pa_cons pe_int (pa_cons pe_int pa_nil))))
    (pss_cons (ps_while PassesOwn.never (pt_cmpR op_ne (pv 2) pe_int (nomark _))
      (pss_cons (ps_set (i := 5) scLow.nd rfl (Or.inl rfl) (pe_op op_fdivW (pv 1) (pv 2)))
      (pss_cons (ps_set (i := 6) scLow.nd rfl (Or.inl rfl) (pe_tup (pa_cons (pe_op op_add (pe_op op_mulV (pv 5) (pe_ix ix_tup (pv 4) pe_int (fun _ _ => rfl))) (pe_ix ix_tup (pv 3) pe_int (fun _ _ => rfl)))
          (pa_cons (pe_op op_add (pe_op op_mulV (pv 5) (pe_ix ix_tup (pv 4) pe_int (fun _ _ => rfl))) (pe_ix ix_tup (pv 3) pe_int (fun _ _ => rfl))) pa_nil))))
      (pss_cons (ps_if (pt_cmpR op_gt (pe_callB (cr_maxT2 rfl hr.units) rfl T.max PyProof.Rows.boot_max (pa_cons (pv 6) pa_nil)) (pe_gi rfl T.FI) (nomark _)) (pss_one (ps_ret pe_non)) pss_nil)
      (pss_cons (ps_set (i := 3) scLow.nd rfl (Or.inl rfl) (pv 4))
      (pss_cons (ps_set (i := 4) scLow.nd rfl (Or.inl rfl) (pv 6))
      (pss_cons (ps_set (i := 7) scLow.nd rfl (Or.inl rfl) (pe_op op_sub (pv 1) (pe_op op_mulV (pv 5) (pv 2))))
      (pss_cons (ps_set (i := 1) scLow.nd rfl (Or.inl rfl) (pv 2))
      (pss_one (ps_set (i := 2) scLow.nd rfl (Or.inl rfl) (pv 7)))))))))))
    (pss_cons (ps_if (pt_cmpR op_lt (pe_ix ix_tup (pv 0) pe_int (fun _ _ => rfl)) pe_int (nomark _)) (pss_one (ps_ret (pe_call (ok_neg T.N) hr1 rfl T.N.m T.N.F.kp T.N.b .nil pass0 (pa_cons (pv 4) pa_nil)))) pss_nil)
    (pss_one (ps_ret (pv 4)))))))), ?_⟩
  refine ⟨_, rfl, a, _, 0, .int n, rfl, rfl, SqT.of ht, atI_nat (j := 0) rfl, n, rfl, ?_⟩
  have eabs : (if n < 0 then -n else n) = (n.natAbs : Int) := by omega
  rw [eabs]
  refine ⟨_, rfl, a, _, 1, .int d, rfl, rfl, SqT.of ht, atI_nat (j := 1) rfl, ?_⟩
  have edn : d = (d.natAbs : Int) := by omega
  rw [edn]
  refine ⟨by show 2 ≤ sizeLine; decide, fun p1 hp1 => ?_⟩
  refine ⟨by show 2 ≤ sizeLine; decide, fun p2 hp2 => ?_⟩
  have s1 : Same H (upd H p1 (two 0 1)) := same_new hp1 _
  have s2 : Same (upd H p1 (two 0 1)) (upd (upd H p1 (two 0 1)) p2 (two 1 0)) := same_new hp2 _
  refine ⟨fun m σ H' => ∃ (u v l1 l2 c1 c2 : Nat) (la ca : Addr) (o5 o6 o7 : Option V), σ = [some (.ref a), some (.int u), some (.int v), some (.ref la), some (.ref ca), o5, o6, o7] ∧ Same H H' ∧ H' la = some (two l1 l2) ∧ H' ca = some (two c1 c2) ∧ H ca = none ∧
    LowInv n.natAbs d.natAbs u v l1 l2 c1 c2 ∧ u < 2 ^ BIG ∧ v < 2 ^ BIG ∧ c1 ≤ FINE ∧ c2 ≤ FINE ∧ v = m, ⟨_, n.natAbs, d.natAbs, 0, 1, 1, 0, p1, p2, none, none, none, rfl, s1.trans s2, s2 _ _ upd_same, upd_same, s1.free hp2, LowInv.start _ _, hn, hd, by decide, by decide, rfl⟩, ?_⟩
  rintro m σ H' ⟨u, v, l1, l2, c1, c2, la, ca, o5, o6, o7, rfl, s3, hla, hca, hca0, inv, hu, hv, f1, f2, rfl⟩
  have htH : H' a = some (two n d) := s3 _ _ ht
  refine ⟨_, rfl, rfl, _, rfl, ?_⟩
  by_cases hv0 : v = 0
  · subst hv0
    have e0 : (!decide (V.int ((0 : Nat) : Int) = V.int 0)) = false := by simp
    rw [e0]
    refine iteF ?_
    obtain ⟨b1, b2⟩ := inv.last hrep
    have hf := fits_of b1 b2 f1 f2
    have en := num_sign hrep
    refine ⟨_, rfl, a, _, 0, .int n, rfl, rfl, SqT.of htH, atI_nat (j := 0) rfl, _, _, rfl, rfl, _, rfl, ?_⟩
    refine ite2 (fun z => ?_) (fun z => ?_)
    · have z' := of_decide_eq_true z
      rw [if_pos z', b1] at en
      refine ⟨_, rfl, _, _, _, rfl, Tw.of hca, fun p hp => ?_⟩
      refine good _ p (s3.trans (same_new hp _)) (s3.free hp) hf ?_
      rw [upd_same, en, b2]
    · have z' := of_decide_eq_false (Bool.eq_false_iff.mpr z)
      rw [if_neg z', b1] at en
      refine ⟨_, rfl, good _ ca s3 hca0 hf ?_⟩
      rw [hca, en, b2]
  · have e1 : (!decide (V.int ((v : Nat) : Int) = V.int 0)) = true := by
      have : ¬ V.int ((v : Nat) : Int) = V.int 0 := fun z => hv0 (by injection z with z; omega)
      rw [decide_eq_false this]
      rfl
    rw [e1]
    refine iteT ⟨_, fun _ _ h => h, ?_⟩
    refine ⟨_, rfl, _, rfl, _, _, rfl, rfl, wide_div (by omega) (by rw [Int.natAbs_natCast]; exact hv) (by decide) (by decide), ?_⟩
    have hw : u / v < 2 ^ BIG := Nat.lt_of_le_of_lt (Nat.div_le_self _ _) hu
    have wb : ((u / v : Nat) : Int).natAbs < 2 ^ BIG := by rw [Int.natAbs_natCast]; exact hw
    have hFB : FINE < 2 ^ 63 := by decide
    have c1b : (c1 : Int).natAbs < 2 ^ 63 := by rw [Int.natAbs_natCast]; omega
    have c2b : (c2 : Int).natAbs < 2 ^ 63 := by rw [Int.natAbs_natCast]; omega
    refine ⟨_, rfl, _, rfl, ca, _, 0, .int c1, rfl, rfl, SqT.of hca, atI_nat (j := 0) rfl, _, _, rfl, rfl, mulV wb c1b (by decide), ?_⟩
    refine ⟨_, rfl, la, _, 0, .int l1, rfl, rfl, SqT.of hla, atI_nat (j := 0) rfl, _, _, rfl, rfl, ?_⟩
    refine ⟨_, rfl, _, rfl, ca, _, 1, .int c2, rfl, rfl, SqT.of hca, atI_nat (j := 1) rfl, _, _, rfl, rfl, mulV wb c2b (by decide), ?_⟩
    refine ⟨_, rfl, la, _, 1, .int l2, rfl, rfl, SqT.of hla, atI_nat (j := 1) rfl, _, _, rfl, rfl, by show 2 ≤ sizeLine; decide, fun p3 hp3 => ?_⟩
    obtain ⟨g1, eg1⟩ : ∃ g1 : Nat, g1 = u / v * c1 + l1 := ⟨_, rfl⟩
    obtain ⟨g2, eg2⟩ : ∃ g2 : Nat, g2 = u / v * c2 + l2 := ⟨_, rfl⟩
    have k1 : (u : Int) / (v : Int) * (c1 : Int) + (l1 : Int) = (g1 : Int) := by rw [eg1]; push_cast; rfl
    have k2 : (u : Int) / (v : Int) * (c2 : Int) + (l2 : Int) = (g2 : Int) := by rw [eg2]; push_cast; rfl
    have eo : HO.tup [.int ((u : Int) / (v : Int) * (c1 : Int) + (l1 : Int)), .int ((u : Int) / (v : Int) * (c2 : Int) + (l2 : Int))] = two g1 g2 := by rw [k1, k2]; rfl
    obtain ⟨H3, hH3⟩ : ∃ H3, H3 = upd H' p3 (HO.tup [.int ((u : Int) / (v : Int) * (c1 : Int) + (l1 : Int)), .int ((u : Int) / (v : Int) * (c2 : Int) + (l2 : Int))]) := ⟨_, rfl⟩
    have h3' : H3 p3 = some (two g1 g2) := by rw [hH3, eo]; exact upd_same
    have s4' : Same H' H3 := by rw [hH3]; exact same_new hp3 _
    have go : ∀ {p : Prop}, p → p := fun z => z
    refine ⟨_, rfl, p3, (g1 : Int), (g2 : Int), rfl, by rw [hH3] at h3'; exact SqT.of h3', ?_⟩
    rw [← hH3]
    refine ⟨_, _, rfl, rfl, _, rfl, ?_⟩
    have nxt := inv.step
    rw [← eg1, ← eg2] at nxt
    refine ite2 (fun z => ?_) (fun z => ?_)
    · have z' := of_decide_eq_true z
      have hbig := inv.big hrep hv0 (by rw [← eg1, ← eg2]; have : FINE = 4611686018427387904 := by decide
                                        omega)
      exact bad _ (s3.trans s4') hbig
    · have z' := of_decide_eq_false (Bool.eq_false_iff.mpr z)
      have hF : FINE = 4611686018427387904 := by decide
      have hm : u % v < v := Nat.mod_lt _ (by omega)
      have er : (u : Int) - (u : Int) / (v : Int) * (v : Int) = ((u % v : Nat) : Int) := by
        have := Nat.div_add_mod u v
        have q1 : (v : Int) * ((u : Int) / (v : Int)) + ((u % v : Nat) : Int) = (u : Int) := by exact_mod_cast this
        have q2 := Int.mul_comm (v : Int) ((u : Int) / (v : Int))
        omega
      have vb : (v : Int).natAbs < 2 ^ BIG := by rw [Int.natAbs_natCast]; exact hv
      refine ⟨_, rfl, _, rfl, _, rfl, _, rfl, _, rfl, _, _, rfl, rfl, mulV wb vb (by decide), _, _, rfl, rfl, ?_⟩
      refine ⟨_, rfl, _, rfl, ?_⟩
      refine ⟨u % v, hm, v, u % v, c1, c2, g1, g2, ca, p3, _, _, _, by rw [← er]; rfl, s3.trans s4', s4' _ _ hca, h3', s3.free hp3, nxt, hv, Nat.lt_trans hm hv, by omega, by omega, rfl⟩
end
end SDP
set_option Elab.async false
set_option linter.all false
/-! # What a number's text is made of, as the program takes it apart -/
namespace SR
open SeamNum SeamPoly SeamPattern SD

/-- a row of digits, not too long -/
def wholeL (b : Bytes) : Option Nat := if b ≠ [] ∧ b.all isDigit = true ∧ b.length ≤ 19 then some (natOf b) else none
theorem fine_len {n : Nat} (h : n ≤ FINE) : (decimal n).length ≤ 19 := decimal_len (Nat.lt_of_le_of_lt h (by decide)) (by decide)
theorem whole_decimal {n : Nat} (h : n ≤ FINE) : wholeL (decimal n) = some n := by
  unfold wholeL
  rw [if_pos ⟨decimal_ne n, List.all_eq_true.mpr (decimal_digits n), fine_len h⟩, natOf_decimal]
theorem whole_lt {b : Bytes} {n : Nat} (h : wholeL b = some n) : n < 2 ^ 64 := by
  unfold wholeL at h
  split at h
  · rename_i c
    cases h
    have z := natOf_lt (List.all_eq_true.mp c.2.1)
    have : 10 ^ b.length ≤ 10 ^ 19 := Nat.pow_le_pow_right (by decide) c.2.2
    omega
  · cases h
def noDash (b : Bytes) : Bytes := b.dropWhile fun (c : UInt8) => c == 45
theorem dash_digits {x : Bytes} (r : Bytes) (hne : x ≠ []) (hd : ∀ c ∈ x, isDigit c = true) : noDash (x ++ r) = x ++ r := by
  cases x with
  | nil => exact absurd rfl hne
  | cons c x =>
    have : c ≠ 45 := digit_ne (hd c (List.mem_cons_self ..)) (by decide)
    show List.dropWhile _ (c :: (x ++ r)) = _
    rw [List.dropWhile_cons, if_neg (by simpa using this)]
    rfl
/-- **a number's text, taken apart** -/
theorem text_parts {b : Bytes} {q : Rat} (h : readNum b = some q) : wholeL (cutAt 47 (noDash b)).1 = some q.num.natAbs ∧ (b.headD 0 = 45 ↔ q.num < 0) ∧
    ((cutAt 47 (noDash b)).2 = none ∧ q.den = 1 ∨ ∃ d, (cutAt 47 (noDash b)).2 = some d ∧ wholeL d = some q.den) := by
  obtain ⟨e, f⟩ := readNum_some h
  rw [numText_self] at e
  have fn : q.num.natAbs ≤ FINE := by unfold fits at f; simp at f; exact f.1
  have fd : q.den ≤ FINE := by unfold fits at f; simp at f; exact f.2
  have hd := decimal_digits q.num.natAbs
  have hne := decimal_ne q.num.natAbs
  have e1 : noDash b = decimal q.num.natAbs ++ (if q.den = 1 then [] else 47 :: decimal q.den) := by
    rw [← e]
    by_cases z : q.num < 0
    · rw [if_pos z]
      show List.dropWhile _ (45 :: (decimal q.num.natAbs ++ _)) = _
      rw [List.dropWhile_cons, if_pos (by decide)]
      exact dash_digits (x := decimal q.num.natAbs) _ hne hd
    · rw [if_neg z, List.nil_append]
      exact dash_digits (x := decimal q.num.natAbs) _ hne hd
  have free : (47 : UInt8) ∉ decimal q.num.natAbs := decimal_free _ (by decide)
  have head : b.headD 0 = 45 ↔ q.num < 0 := by
    rw [← e]
    by_cases z : q.num < 0
    · rw [if_pos z]
      simp [z]
    · rw [if_neg z, List.nil_append]
      refine ⟨fun y => ?_, fun y => absurd y z⟩
      cases hx : decimal q.num.natAbs with
      | nil => exact absurd hx hne
      | cons c x =>
        rw [hx] at y
        have y' : c = 45 := y
        exact absurd y' (digit_ne (hd c (by rw [hx]; exact List.mem_cons_self ..)) (by decide))
  by_cases z : q.den = 1
  · rw [e1, if_pos z, List.append_nil, cutAt_none 47 _ free]
    exact ⟨whole_decimal fn, head, .inl ⟨rfl, z⟩⟩
  · rw [e1, if_neg z, cutAt_at 47 _ _ free]
    exact ⟨whole_decimal fn, head, .inr ⟨_, rfl, whole_decimal fd⟩⟩
/-- the sign put before -/
theorem signed_back {b : Bytes} {q r : Rat} (h : readNum b = some q) (hr : Rep r q.num.natAbs q.den) : q = if b.headD 0 = 45 then -r else r := by
  obtain ⟨_, hs, _⟩ := text_parts h
  by_cases z : b.headD 0 = 45
  · rw [if_pos z]
    have n := hs.mp z
    have k := hr.neg
    refine (Rep.of q).2.trans ?_ |>.trans rfl
    rw [k.2]
    have : (-(q.num.natAbs : Int)) = q.num := by omega
    rw [this]
  · rw [if_neg z]
    have n : ¬ q.num < 0 := fun y => z (hs.mpr y)
    refine (Rep.of q).2.trans ?_
    rw [hr.2]
    have : (q.num.natAbs : Int) = q.num := by omega
    rw [this]
theorem fits_neg (q : Rat) : fits (-q) = fits q := by
  unfold fits
  have e1 : (-q).num = -q.num := rfl
  have e2 : (-q).den = q.den := rfl
  rw [e1, e2, Int.natAbs_neg]
end SR
set_option Elab.async false
set_option linter.all false
set_option maxRecDepth 100000
set_option maxHeartbeats 4000000
/-! # Numbers' texts -/
namespace SDP
open PySem PySem.Spec PyProof.Rows L2 SDX SD TL SR
open SeamNum (Bytes fits FINE)
open SeamPattern (numText readNum isDigit cutAt natOf)

/-! ### texts by bytes -/
def Low (b : Bytes) : Prop := ∀ c ∈ b, c.toNat < 128
theorem uni_digit {c : UInt8} (h : c.toNat < 128) : Unicode.isDigit c.toNat = isDigit c := by
  have q := is_digit c h
  unfold Txt.isdigit at q
  simpa [Str.length] using q
theorem uni_alnum {c : UInt8} (h : c.toNat < 128) : Unicode.isAlnum c.toNat = SeamText.goesOn c := by
  have q := is_alnum c h
  unfold Txt.isalnum at q
  simpa [Str.length] using q
theorem all_tx {p : Nat → Bool} {q : UInt8 → Bool} {b : Bytes} (h : ∀ c ∈ b, p c.toNat = q c) : (tx b).cps.all p = b.all q := by
  show ((b.map UInt8.toNat).toArray).all p = _
  rw [List.all_toArray, List.all_map]
  induction b with
  | nil => rfl
  | cons c r ih =>
    rw [List.all_cons, List.all_cons, ih fun c hc => h c (List.mem_cons_of_mem _ hc)]
    congr 1
    exact h c (List.mem_cons_self ..)
theorem isdigit_tx {b : Bytes} (h : Low b) : Txt.isdigit (tx b) = (!b.isEmpty && b.all isDigit) := by
  unfold Txt.isdigit
  rw [all_tx fun c hc => uni_digit (h c hc), tx_len]
  cases b <;> simp
theorem isalnum_tx {b : Bytes} (h : Low b) : Txt.isalnum (tx b) = (!b.isEmpty && b.all SeamText.goesOn) := by
  unfold Txt.isalnum
  rw [all_tx fun c hc => uni_alnum (h c hc), tx_len]
  cases b <;> simp
theorem dw_dropB {p : UInt8 → Bool} : ∀ l : Bytes, l.drop (l.takeWhile p).length = l.dropWhile p
  | [] => rfl
  | x :: r => by
    rw [List.takeWhile_cons, List.dropWhile_cons]
    by_cases h : p x = true
    · rw [if_pos h, if_pos h, List.length_cons, List.drop_succ_cons, dw_dropB r]
    · rw [if_neg h, if_neg h]
      rfl
theorem goes45 : ∀ c : UInt8, (Str.ofString "-").cps.contains c.toNat = (c == 45) := all_u8 (p := fun c => (Str.ofString "-").cps.contains c.toNat = (c == 45)) (by decide +kernel)
theorem lstrip_dash (a : Bytes) : Txt.lstripChars (tx a) (Str.ofString "-") = tx (noDash a) := by
  refine ext_tl ?_
  unfold Txt.lstripChars
  rw [stripBy_eq, tl_strSub]
  have t45 : ((a.map UInt8.toNat).takeWhile (Str.ofString "-").cps.contains) = (a.takeWhile fun (c : UInt8) => c == 45).map UInt8.toNat := by
    rw [List.takeWhile_map]
    congr 1
    congr 1
    funext c
    exact goes45 c
  have e1 : stripLo (Str.ofString "-").cps.contains true (tx a) = (a.takeWhile fun (c : UInt8) => c == 45).length := by
    show ((a.map UInt8.toNat).takeWhile (Str.ofString "-").cps.contains).length = _
    rw [t45, List.length_map]
  have e2 : ∀ lo, stripHi (Str.ofString "-").cps.contains false (tx a) lo = (tx a).length := fun lo => rfl
  rw [e1, e2, tx_len]
  show ((a.map UInt8.toNat).drop _).take _ = (noDash a).map UInt8.toNat
  rw [← List.map_drop, dw_dropB, ← List.map_take, List.take_of_length_le]
  · rfl
  · rw [← dw_dropB, List.length_drop]
    exact Nat.le_refl _
theorem starts_dash (b : Bytes) : Txt.startswith (tx b) (Str.ofString "-") = decide (b.headD 0 = 45) := by
  have ey : tl (Str.ofString "-") = [45] := by decide +kernel
  cases b with
  | nil => decide +kernel
  | cons c r =>
    unfold Txt.startswith
    rw [PySem.StrLaws.subAt_eq, tx_len]
    have e0 : (tx (c :: r)).cps.toList = c.toNat :: r.map UInt8.toNat := rfl
    have e1 : (Str.ofString "-").cps.toList = [45] := ey
    have e2 : (Str.ofString "-").length = 1 := by decide +kernel
    rw [e0, e1, e2, Bool.eq_iff_iff]
    simp only [List.drop_zero, List.take_succ_cons, List.take_zero, Bool.and_eq_true, decide_eq_true_eq, beq_iff_eq, List.cons.injEq, and_true, List.length_cons, List.headD_cons]
    constructor
    · rintro ⟨_, z⟩
      exact decide_eq_true (UInt8.toNat_inj.mp (show c.toNat = (45 : UInt8).toNat from z))
    · intro z
      rw [of_decide_eq_true z]
      exact ⟨by omega, rfl⟩
theorem part_slash (b : Bytes) : ∃ m, Txt.partition (tx b) (Str.ofString "/") = (tx (cutAt 47 b).1, m, tx ((cutAt 47 b).2.getD [])) ∧ m = (if (cutAt 47 b).2 = none then tx [] else tx [47]) := by
  have ey : tl (Str.ofString "/") = 47 :: [] := by decide +kernel
  have no : ∀ l : Bytes, (47 : UInt8) ∉ l → (47 : Nat) ∉ tl (tx l) := fun l hl z => by
    have z' : (47 : Nat) ∈ l.map UInt8.toNat := z
    obtain ⟨c, hc, e⟩ := List.mem_map.mp z'
    have : c = 47 := UInt8.toNat_inj.mp e
    rw [this] at hc
    exact hl hc
  by_cases h : (47 : UInt8) ∈ b
  · obtain ⟨x, r, e, hx⟩ := List.eq_append_cons_of_mem h
    have e2 : tx b = tx x ++ Str.ofString "/" ++ tx r := by
      refine ext_tl ?_
      rw [tl_append, tl_append, ey, e]
      show (x ++ 47 :: r).map UInt8.toNat = (x.map UInt8.toNat) ++ [47] ++ r.map UInt8.toNat
      rw [List.map_append, List.append_assoc]
      rfl
    rw [e2, partition_app ey (no x hx), e, cutAt_at 47 x r hx]
    refine ⟨_, rfl, ?_⟩
    rw [if_neg (by simp)]
    decide +kernel
  · rw [partition_none ey (no b h), cutAt_none 47 b h]
    refine ⟨_, rfl, ?_⟩
    rw [if_pos rfl]
    decide +kernel
section
variable {P : Program} {w : World} {K : PySem.W.Frag} {mg : Str → Option Value} {base : Heap}
/-! ### number_text -/
def spNumT : Sp := fun vs H Q _ => ∃ v q, vs = [v] ∧ Nm H v q ∧ fits q = true ∧ Q (.str (tx (numText q))) H
theorem scNumT : FnScope ["number"] ["number"] (defScope S_number_text) := ⟨rfl, rfl, rfl, by decide +kernel, rfl, by decide +kernel, by decide +kernel⟩
theorem tx_app (a b : Bytes) : tx a ++ tx b = tx (a ++ b) := ext_tl (by rw [tl_append]; show a.map UInt8.toNat ++ b.map UInt8.toNat = (a ++ b).map UInt8.toNat; rw [List.map_append])
theorem fits_num {q : Rat} (h : fits q = true) : q.num.natAbs ≤ FINE ∧ q.den ≤ FINE := by
  unfold fits at h
  simp only [Bool.and_eq_true, decide_eq_true_eq] at h
  exact h
theorem small_log {z : Int} (h : z.natAbs ≤ FINE) : z.natAbs.log2 < 1920 := by
  have := log2_le (n := z.natAbs) (b := 63) (Nat.lt_of_le_of_lt h (by decide))
  omega
theorem signs_len {z : Int} (h : z.natAbs ≤ FINE) : ((if z < 0 then [45] else []) ++ SeamNum.decimal z.natAbs : Bytes).length ≤ 20 := by
  rw [List.length_append]
  have := fine_len h
  split
  · simp; omega
  · simp; omega
theorem ok_numT {f : Addr} {fd : FuncData} (F : Fn1 K mg "number_text" S_number_text ["number"] f fd) (ms : mg "str" = none) : FnOk P w K mg base CX0 1 f fd ["number"] spNumT := by
  refine F.F.ok scNumT (fun vs H Q E h => ?_) (fun cdv A outer s H vs Q E hr h => ?_)
  · obtain ⟨v, q, rfl, _⟩ := h
    rfl
  obtain ⟨v, q, rfl, ⟨a, rfl, ht⟩, hf, k⟩ := h
  obtain ⟨fn, fd⟩ := fits_num hf
  refine ⟨_, pss_cons (ps_if (pt_cmpR op_eq (pe_ix ix_tup (pv 0) pe_int (fun _ _ => rfl)) pe_int (nomark _)) (pss_one (ps_ret (pe_callTy call_str_int rfl ms (by decide +kernel) (pa_cons (pe_ix ix_tup (pv 0) pe_int (fun _ _ => rfl)) pa_nil)))) pss_nil)
    (pss_one (ps_ret (pe_op op_add_str (pe_op op_add_str (pe_callTy call_str_int rfl ms (by decide +kernel) (pa_cons (pe_ix ix_tup (pv 0) pe_int (fun _ _ => rfl)) pa_nil)) pe_str) (pe_callTy call_str_int rfl ms (by decide +kernel) (pa_cons (pe_ix ix_tup (pv 0) pe_int (fun _ _ => rfl)) pa_nil))))), ?_⟩
  have e1 := str_int q.num
  have e2 := str_int (q.den : Int)
  have ed : ¬ ((q.den : Int) < 0) := by omega
  rw [if_neg ed, List.nil_append, Int.natAbs_natCast] at e2
  have eN := numText_self q
  refine ⟨_, rfl, a, _, 1, .int q.den, rfl, rfl, SqT.of ht, atI_nat (j := 1) rfl, rfl, _, rfl, ?_⟩
  have ed1 : decide (V.int (q.den : Int) = V.int 1) = decide (q.den = 1) := by
    by_cases z : q.den = 1
    · rw [z]
      simp
    · rw [decide_eq_false z]
      exact decide_eq_false fun y => z (by injection y with y; omega)
  rw [ed1]
  refine ite2 (fun z => ?_) (fun z => ?_)
  · have z' := of_decide_eq_true z
    refine ⟨_, rfl, a, _, 0, .int q.num, rfl, rfl, SqT.of ht, atI_nat (j := 0) rfl, _, rfl, small_log fn, ?_⟩
    rw [if_pos z', List.append_nil] at eN
    rw [e1, ← eN]
    exact k
  · have z' := of_decide_eq_false (Bool.eq_false_iff.mpr z)
    rw [if_neg z'] at eN
    have es : Str.ofString "/" = tx [47] := by decide +kernel
    have l1 := signs_len fn
    have l2 := fine_len fd
    refine ⟨_, rfl, a, _, 0, .int q.num, rfl, rfl, SqT.of ht, atI_nat (j := 0) rfl, _, rfl, small_log fn, ?_⟩
    rw [e1]
    refine ⟨_, _, rfl, rfl, ?_, ?_⟩
    · rw [es, tx_len, sizeLine_eq]
      have := tx_len ((if q.num < 0 then [45] else []) ++ SeamNum.decimal q.num.natAbs)
      show (tx ((if q.num < 0 then [45] else []) ++ SeamNum.decimal q.num.natAbs)).length + _ ≤ _
      rw [tx_len]
      simp only [List.length_singleton]
      omega
    · refine ⟨_, rfl, a, _, 1, .int q.den, rfl, rfl, SqT.of ht, atI_nat (j := 1) rfl, _, rfl, small_log (by rw [Int.natAbs_natCast]; exact fd), ?_⟩
      rw [e2]
      have e3 : (SDX.bt ((if q.num < 0 then [45] else []) ++ SeamNum.decimal q.num.natAbs) ++ Str.ofString "/" ++ SDX.bt (SeamNum.decimal q.den) : Str) = tx (numText q) := by
        rw [es]
        show tx _ ++ tx _ ++ tx _ = _
        rw [tx_app, tx_app, eN]
        congr 1
        simp
      refine ⟨_, _, rfl, rfl, ?_, ?_⟩
      · rw [es]
        show (tx _ ++ tx _).length + (tx _).length ≤ _
        rw [tx_app, tx_len, tx_len, List.length_append, sizeLine_eq]
        simp only [List.length_singleton]
        omega
      · rw [e3]
        exact k
/-! ### whole_of -/
def spWhole : Sp := fun vs H Q _ => ∃ b : Bytes, vs = [.str (tx b)] ∧ Low b ∧ b.length ≤ 5000 ∧ (∀ n : Nat, wholeL b = some n → Q (.int (n : Int)) H) ∧ (wholeL b = none → Q .non H)
theorem scWhole : FnScope ["digits"] ["digits"] (defScope S_whole_of) := ⟨rfl, rfl, rfl, by decide +kernel, rfl, by decide +kernel, by decide +kernel⟩
theorem ok_whole {f : Addr} {fd : FuncData} (F : Fn1 K mg "whole_of" S_whole_of ["digits"] f fd) (ml : mg "len" = none) (mi : mg "int" = none) (LW : Gi mg "LONGEST_WHOLE" 19) : FnOk P w K mg base CX0 1 f fd ["digits"] spWhole := by
  refine F.F.ok scWhole (fun vs H Q E h => ?_) (fun cdv A outer s H vs Q E hr h => ?_)
  · obtain ⟨b, rfl, _⟩ := h
    rfl
  obtain ⟨b, rfl, hl, h5, k1, k2⟩ := h
  refine ⟨_, pss_cons (ps_if (PW.pt (pw_or (pt_not (pt_val (pe_bm0 PySem.F.plainAttrs_str PySem.F.slot_str_isdigit PySem.F.type_str_isdigit mt_isdigit (pv 0)))) (pw_or1 (pt_cmpR op_gt (pe_callB call_len_str rfl ml PySem.boot_len (pa_cons (pv 0) pa_nil)) (pe_gi rfl LW) (nomark _))))) (pss_one (ps_ret pe_non)) pss_nil)
    (pss_one (ps_ret (pe_callTy call_int_str rfl mi (by decide +kernel) (pa_cons (pv 0) pa_nil)))), ?_⟩
  refine ⟨_, rfl, rfl, _, rfl, rfl, trivial, _, rfl, ?_⟩
  rw [isdigit_tx hl]
  cases hx : (!b.isEmpty && b.all isDigit) with
  | false =>
    refine iteT (iteT (k2 ?_))
    unfold wholeL
    rw [if_neg]
    rintro ⟨z1, z2, _⟩
    rw [z2] at hx
    cases b with
    | nil => exact z1 rfl
    | cons c r => cases hx
  | true =>
    rw [Bool.and_eq_true] at hx
    have hne : b ≠ [] := fun z => by rw [z] at hx; exact absurd hx.1 (by decide)
    refine iteF ?_
    refine ⟨_, rfl, _, rfl, txt_line h5, _, _, rfl, rfl, _, rfl, ?_⟩
    rw [tx_len]
    refine ite2 (fun z => ?_) (fun z => ?_)
    · have z' := of_decide_eq_true z
      refine k2 ?_
      unfold wholeL
      rw [if_neg]
      rintro ⟨_, _, z3⟩
      omega
    · have z' := of_decide_eq_false (Bool.eq_false_iff.mpr z)
      have hlen : b.length ≤ 19 := by omega
      refine ⟨_, rfl, _, _, rfl, int_bt (List.all_eq_true.mp hx.2) hne (by omega), by rw [tx_len]; omega, ?_⟩
      refine k1 _ ?_
      unfold wholeL
      rw [if_pos ⟨hne, hx.2, hlen⟩]
end
end SDP
set_option Elab.async false
set_option linter.all false
set_option maxRecDepth 100000
set_option maxHeartbeats 4000000
/-! # number_of -/
namespace SDP
open PySem PySem.Spec PyProof.Rows L2 SDX SD TL SR
open SeamNum (Bytes fits FINE)
open SeamPattern (numText readNum isDigit cutAt natOf)
theorem Low.sub {b c : Bytes} (h : Low b) (s : ∀ x ∈ c, x ∈ b) : Low c := fun x hx => h x (s x hx)
theorem noDash_mem {b : Bytes} : ∀ x ∈ noDash b, x ∈ b := fun x hx => (List.dropWhile_sublist _).subset hx
theorem noDash_len (b : Bytes) : (noDash b).length ≤ b.length := (List.dropWhile_sublist _).length_le
theorem cutAt_mem (c : UInt8) : ∀ b : Bytes, (∀ x ∈ (cutAt c b).1, x ∈ b) ∧ (∀ x ∈ (cutAt c b).2.getD [], x ∈ b) ∧ (cutAt c b).1.length ≤ b.length ∧ ((cutAt c b).2.getD []).length ≤ b.length := fun b => by
  by_cases h : c ∈ b
  · obtain ⟨x, r, e, hx⟩ := List.eq_append_cons_of_mem h
    rw [e, cutAt_at c x r hx]
    refine ⟨fun y hy => List.mem_append_left _ hy, fun y hy => List.mem_append_right _ (List.mem_cons_of_mem _ hy), ?_, ?_⟩
    · rw [List.length_append]
      show x.length ≤ _
      omega
    · rw [List.length_append, List.length_cons]
      show r.length ≤ _
      omega
  · rw [cutAt_none c b h]
    exact ⟨fun y hy => hy, fun y hy => (by cases hy), Nat.le_refl _, Nat.zero_le _⟩
structure NumT (K : PySem.W.Frag) (mg : Str → Option Value) (P : Program) (base : Heap) (fL fN fT fW fO : Addr) (dL dN dT dW dO : FuncData) : Prop where
  low : LowT K mg P base fL fN dL dN
  T : Fn1 K mg "number_text" S_number_text ["number"] fT dT
  W : Fn1 K mg "whole_of" S_whole_of ["digits"] fW dW
  O : Fn1 K mg "number_of" S_number_of ["text"] fO dO
  str : mg "str" = none
  len : mg "len" = none
  int : mg "int" = none
  LW : Gi mg "LONGEST_WHOLE" 19
def spNumOf : Sp := fun vs H Q _ => ∃ b : Bytes, vs = [.str (tx b)] ∧ Low b ∧ b.length ≤ 5000 ∧
  (∀ q H' p, readNum b = some q → Same H H' → H p = none → H' p = some (two q.num q.den) → Q (.ref p) H') ∧ (readNum b = none → ∀ H', Same H H' → Q .non H')
section
variable {P : Program} {w : World} {K : PySem.W.Frag} {mg : Str → Option Value} {base : Heap} {fL fN fT fW fO : Addr} {dL dN dT dW dO : FuncData}
theorem scNumOf : FnScope ["text", "halves", "above", "below", "number"] ["text"] (defScope S_number_of) := ⟨rfl, rfl, rfl, by decide +kernel, rfl, by decide +kernel, by decide +kernel⟩
theorem dec_non_int (n : Int) : decide (V.int n = V.non) = false := decide_eq_false fun z => by cases z
theorem dec_ref_non (p : Addr) : decide (V.ref p = V.non) = false := decide_eq_false fun z => by cases z
theorem dec_empty (a : Bytes) : decide (V.str (tx a) = V.str (Str.ofString "")) = decide (a = []) := dec_str a []
theorem ok_numOf (T : NumT K mg P base fL fN fT fW fO dL dN dT dW dO) : FnOk P w K mg base CX0 34 fO dO ["text"] spNumOf := by
  refine T.O.F.ok scNumOf (fun vs H Q E h => ?_) (fun cdv A outer s H vs Q E hr h => ?_)
  · obtain ⟨b, rfl, _⟩ := h
    rfl
  obtain ⟨b, rfl, hl, h5, good, bad⟩ := h
  have hr1 : Room 1 _ := hr.mono (by decide)
  have okW := ok_whole (P := P) (w := w) (base := base) T.W T.len T.int T.LW
  refine ⟨_, pss_cons (ps_set (i := 1) scNumOf.nd rfl (Or.inl rfl) (pe_bm PySem.F.plainAttrs_str PySem.F.slot_str_partition PySem.F.type_str_partition mt_partition (pe_bm PySem.F.plainAttrs_str PySem.F.slot_str_lstrip PySem.F.type_str_lstrip mt_lstripChars (pv 0) (pa_cons pe_str pa_nil)) (pa_cons pe_str pa_nil)))
    (pss_cons (ps_set (i := 2) scNumOf.nd rfl (Or.inl rfl) (pe_call okW hr1 rfl T.W.m T.W.F.kp T.W.b .nil pass0 (pa_cons (pe_ix ix_tup (pv 1) pe_int (fun _ _ => rfl)) pa_nil)))
    (pss_cons (ps_set (i := 3) scNumOf.nd rfl (Or.inl rfl) (pe_ifExp (pt_cmpR op_eq (pe_ix ix_tup (pv 1) pe_int (fun _ _ => rfl)) pe_str (by rfl)) pe_int (pe_call okW hr1 rfl T.W.m T.W.F.kp T.W.b .nil pass0 (pa_cons (pe_ix ix_tup (pv 1) pe_int (fun _ _ => rfl)) pa_nil))))
    (pss_cons (ps_if (PW.pt (pw_or (pt_cmpR op_isN (pv 2) pe_non (nomark _)) (pw_or (pt_cmpR op_isN (pv 3) pe_non (nomark _)) (pw_or1 (pt_cmpR op_eq (pv 3) pe_int (nomark _)))))) (pss_one (ps_ret pe_non)) pss_nil)
    (pss_cons (ps_set (i := 4) scNumOf.nd rfl (Or.inl rfl) (pe_call (ok_low T.low) hr rfl T.low.L.m T.low.L.F.kp T.low.L.b .nil pass0 (pa_cons (pe_tup (pa_cons (pv 2) (pa_cons (pv 3) pa_nil))) pa_nil)))
    (pss_cons (ps_if (pt_cmpR op_isN (pv 4) pe_non (nomark _)) (pss_one (ps_ret pe_non)) pss_nil)
    (pss_cons (ps_if (pt_val (pe_bm PySem.F.plainAttrs_str PySem.F.slot_str_startswith PySem.F.type_str_startswith mt_startswith (pv 0) (pa_cons pe_str pa_nil))) (pss_one (ps_set (i := 4) scNumOf.nd rfl (Or.inl rfl) (pe_call (ok_neg T.low.N) hr1 rfl T.low.N.m T.low.N.F.kp T.low.N.b .nil pass0 (pa_cons (pv 4) pa_nil)))) pss_nil)
    (pss_cons (ps_if (pt_cmpR op_ne (pe_call (ok_numT T.T T.str) hr1 rfl T.T.m T.T.F.kp T.T.b .nil pass0 (pa_cons (pv 4) pa_nil)) (pv 0) (by rfl)) (pss_one (ps_ret pe_non)) pss_nil)
    (pss_one (ps_ret (pv 4)))))))))), ?_⟩
  obtain ⟨m, e1, em⟩ := part_slash (noDash b)
  obtain ⟨c1, c2, c3, c4⟩ := cutAt_mem 47 (noDash b)
  have dl := noDash_len b
  have lowD : Low (noDash b) := hl.sub noDash_mem
  obtain ⟨x, hx⟩ : ∃ x, x = (cutAt 47 (noDash b)).1 := ⟨_, rfl⟩
  obtain ⟨y, hy⟩ : ∃ y, y = (cutAt 47 (noDash b)).2 := ⟨_, rfl⟩
  have lowX : Low x := by rw [hx]; exact lowD.sub c1
  have lowY : Low (y.getD []) := by rw [hy]; exact lowD.sub c2
  rw [← hx] at e1 c3
  rw [← hy] at e1 em c4
  have parts := fun {q : Rat} (h : readNum b = some q) => text_parts h
  rw [← hx, ← hy] at parts
  refine ⟨_, rfl, rfl, _, _, rfl, rfl, txt_line h5, ?_⟩
  rw [lstrip_dash]
  refine ⟨rfl, _, _, rfl, rfl, by decide +kernel, txt_line (by omega), fun p hp => ?_⟩
  rw [e1]
  have s1 : Same H (upd H p (.tup [.str (tx x), .str m, .str (tx (y.getD []))])) := same_new hp _
  have a1 : (upd H p (.tup [.str (tx x), .str m, .str (tx (y.getD []))])) p = some (.tup [.str (tx x), .str m, .str (tx (y.getD []))]) := upd_same
  generalize (upd H p (.tup [.str (tx x), .str m, .str (tx (y.getD []))])) = H1 at s1 a1
  have no : readNum b = none → Q .non H1 := fun z => bad z _ s1
  refine ⟨_, rfl, p, _, 0, .str (tx x), rfl, rfl, SqT.of a1, atI_nat (j := 0) rfl, x, rfl, lowX, by omega, fun u hu => ?_, fun hu => ?_⟩
  case refine_2 =>
    have none : readNum b = none := by
      cases h : readNum b with
      | none => rfl
      | some q =>
        obtain ⟨z, _⟩ := parts h
        rw [hu] at z
        cases z
    refine ⟨_, rfl, p, _, 1, .str m, rfl, rfl, SqT.of a1, atI_nat (j := 1) rfl, rfl, _, rfl, ?_⟩
    rcases hyc : y with _ | d
    · rw [hyc, if_pos rfl] at em
      subst em
      rw [dec_empty, decide_eq_true rfl]
      exact iteT ⟨_, rfl, rfl, _, rfl, iteT (iteT (no none))⟩
    · rw [hyc, if_neg (by simp)] at em
      subst em
      rw [hyc] at a1 c4 lowY
      rw [dec_empty, decide_eq_false (by simp)]
      refine iteF ⟨_, rfl, p, _, 2, .str (tx d), rfl, rfl, SqT.of a1, atI_nat (j := 2) rfl, d, rfl, lowY, by have : d.length ≤ (noDash b).length := c4; omega, fun v hv => ?_, fun hv => ?_⟩
      · exact ⟨_, rfl, rfl, _, rfl, iteT (iteT (no none))⟩
      · exact ⟨_, rfl, rfl, _, rfl, iteT (iteT (no none))⟩
  case refine_1 =>
    have ub := whole_lt hu
    refine ⟨_, rfl, p, _, 1, .str m, rfl, rfl, SqT.of a1, atI_nat (j := 1) rfl, rfl, _, rfl, ?_⟩
    rcases hyc : y with _ | d
    · rw [hyc, if_pos rfl] at em
      subst em
      rw [dec_empty, decide_eq_true rfl]
      obtain ⟨e, ee⟩ : ∃ e : Nat, e = 1 := ⟨_, rfl⟩
      have fe : ∀ {q : Rat}, readNum b = some q → q.num.natAbs = u ∧ q.den = e := fun {q} h => by
        obtain ⟨z1, _, z3⟩ := parts h
        rw [hu] at z1
        rcases z3 with ⟨_, z3⟩ | ⟨d, z3, _⟩
        · exact ⟨(Option.some.inj z1).symm, by rw [z3, ee]⟩
        · rw [hyc] at z3
          cases z3
      have eb : e < 2 ^ 64 := by rw [ee]; decide
      have e1' : (1 : Int) = (e : Int) := by rw [ee]; rfl
      rw [e1']
      refine iteT ?_
      refine ⟨_, rfl, rfl, _, rfl, iteF ⟨_, rfl, rfl, _, rfl, iteF ⟨_, rfl, rfl, _, rfl, ?_⟩⟩⟩
      by_cases e0 : e = 0
      · have none : readNum b = none := by
          cases h : readNum b with
          | none => rfl
          | some q => exact absurd ((fe h).2.trans e0) q.den_nz
        rw [e0]
        exact iteT (no none)
      · have ei : decide (V.int (e : Int) = V.int 0) = false := decide_eq_false fun z => e0 (by injection z with z; omega)
        rw [ei]
        have rep : Rep (Rat.divInt (u : Int) (e : Int)) (u : Int) (e : Int) := ⟨by omega, rfl⟩
        have sg : ∀ {q : Rat}, readNum b = some q → q = if b.headD 0 = 45 then -(Rat.divInt (u : Int) (e : Int)) else Rat.divInt (u : Int) (e : Int) := fun {q} h => by
          obtain ⟨z1, z2⟩ := fe h
          exact signed_back h (by rw [z1, z2]; exact rep)
        generalize Rat.divInt (u : Int) (e : Int) = r at rep sg
        have b64 : ∀ n : Nat, n < 2 ^ 64 → (n : Int).natAbs < 2 ^ BIG := fun n hn => by
          rw [Int.natAbs_natCast]
          exact Nat.lt_of_lt_of_le hn (Nat.pow_le_pow_right (by decide) (by decide))
        refine iteF ⟨_, rfl, _, rfl, by show 2 ≤ sizeLine; decide, fun p2 hp2 => ?_⟩
        refine ⟨_, (u : Int), (e : Int), r, rfl, Tw.of upd_same, rep, b64 _ ub, b64 _ eb, fun H3 p3 s3 hp3 hf h3 => ?_, fun H3 s3 hf => ?_⟩
        · have s4 : Same H H3 := (s1.trans (same_new hp2 _)).trans s3
          refine ⟨_, rfl, rfl, _, rfl, iteF ⟨_, rfl, rfl, _, _, rfl, rfl, _, rfl, ?_⟩⟩
          rw [starts_dash]
          by_cases hd : b.headD 0 = 45
          · rw [decide_eq_true hd]
            rw [if_pos hd] at sg
            refine iteT ⟨_, rfl, _, _, _, rfl, Tw.of h3, fun p4 hp4 => ?_⟩
            have s5 := s4.trans (same_new hp4 (two (-r.num) r.den))
            refine ⟨_, rfl, _, -r, rfl, ⟨p4, rfl, upd_same⟩, (by rw [fits_neg]; exact hf), _, rfl, rfl, _, rfl, ?_⟩
            rw [dec_str]
            by_cases ht : numText (-r) = b
            · rw [decide_eq_true ht]
              exact iteF ⟨_, rfl, good (-r) _ p4 ((readNum_iff b (-r)).mpr ⟨ht, by rw [fits_neg]; exact hf⟩) s5 (s4.free hp4) upd_same⟩
            · rw [decide_eq_false ht]
              refine iteT (bad ?_ _ s5)
              cases h : readNum b with
              | none => rfl
              | some q =>
                refine absurd ?_ ht
                rw [← sg h]
                exact (readNum_some h).1
          · rw [decide_eq_false hd]
            rw [if_neg hd] at sg
            refine iteF ⟨_, rfl, _, r, rfl, ⟨p3, rfl, h3⟩, hf, _, rfl, rfl, _, rfl, ?_⟩
            rw [dec_str]
            by_cases ht : numText r = b
            · rw [decide_eq_true ht]
              exact iteF ⟨_, rfl, good r _ p3 ((readNum_iff b r).mpr ⟨ht, hf⟩) s4 ((s1.trans (same_new hp2 _)).free hp3) h3⟩
            · rw [decide_eq_false ht]
              refine iteT (bad ?_ _ s4)
              cases h : readNum b with
              | none => rfl
              | some q =>
                refine absurd ?_ ht
                rw [← sg h]
                exact (readNum_some h).1
        · refine ⟨_, rfl, rfl, _, rfl, iteT (bad ?_ _ ((s1.trans (same_new hp2 _)).trans s3))⟩
          cases h : readNum b with
          | none => rfl
          | some q =>
            have z := (readNum_some h).2
            have zq := sg h
            by_cases hd : b.headD 0 = 45
            · rw [if_pos hd] at zq
              rw [zq, fits_neg, hf] at z
              cases z
            · rw [if_neg hd] at zq
              rw [zq, hf] at z
              cases z
    · rw [hyc, if_neg (by simp)] at em
      subst em
      rw [hyc] at a1 c4 lowY
      rw [dec_empty, decide_eq_false (by simp)]
      refine iteF ⟨_, rfl, p, _, 2, .str (tx d), rfl, rfl, SqT.of a1, atI_nat (j := 2) rfl, d, rfl, lowY, by have : d.length ≤ (noDash b).length := c4; omega, fun e hv => ?_, fun hv => ?_⟩
      · have fe : ∀ {q : Rat}, readNum b = some q → q.num.natAbs = u ∧ q.den = e := fun {q} h => by
          obtain ⟨z1, _, z3⟩ := parts h
          rw [hu] at z1
          rcases z3 with ⟨z3, _⟩ | ⟨d', z3, z4⟩
          · rw [hyc] at z3
            cases z3
          · rw [hyc] at z3
            cases z3
            rw [hv] at z4
            exact ⟨(Option.some.inj z1).symm, (Option.some.inj z4).symm⟩
        have eb := whole_lt hv
        refine ⟨_, rfl, rfl, _, rfl, iteF ⟨_, rfl, rfl, _, rfl, iteF ⟨_, rfl, rfl, _, rfl, ?_⟩⟩⟩
        by_cases e0 : e = 0
        · have none : readNum b = none := by
            cases h : readNum b with
            | none => rfl
            | some q => exact absurd ((fe h).2.trans e0) q.den_nz
          rw [e0]
          exact iteT (no none)
        · have ei : decide (V.int (e : Int) = V.int 0) = false := decide_eq_false fun z => e0 (by injection z with z; omega)
          rw [ei]
          have rep : Rep (Rat.divInt (u : Int) (e : Int)) (u : Int) (e : Int) := ⟨by omega, rfl⟩
          have sg : ∀ {q : Rat}, readNum b = some q → q = if b.headD 0 = 45 then -(Rat.divInt (u : Int) (e : Int)) else Rat.divInt (u : Int) (e : Int) := fun {q} h => by
            obtain ⟨z1, z2⟩ := fe h
            exact signed_back h (by rw [z1, z2]; exact rep)
          generalize Rat.divInt (u : Int) (e : Int) = r at rep sg
          have b64 : ∀ n : Nat, n < 2 ^ 64 → (n : Int).natAbs < 2 ^ BIG := fun n hn => by
            rw [Int.natAbs_natCast]
            exact Nat.lt_of_lt_of_le hn (Nat.pow_le_pow_right (by decide) (by decide))
          refine iteF ⟨_, rfl, _, rfl, by show 2 ≤ sizeLine; decide, fun p2 hp2 => ?_⟩
          refine ⟨_, (u : Int), (e : Int), r, rfl, Tw.of upd_same, rep, b64 _ ub, b64 _ eb, fun H3 p3 s3 hp3 hf h3 => ?_, fun H3 s3 hf => ?_⟩
          · have s4 : Same H H3 := (s1.trans (same_new hp2 _)).trans s3
            refine ⟨_, rfl, rfl, _, rfl, iteF ⟨_, rfl, rfl, _, _, rfl, rfl, _, rfl, ?_⟩⟩
            rw [starts_dash]
            by_cases hd : b.headD 0 = 45
            · rw [decide_eq_true hd]
              rw [if_pos hd] at sg
              refine iteT ⟨_, rfl, _, _, _, rfl, Tw.of h3, fun p4 hp4 => ?_⟩
              have s5 := s4.trans (same_new hp4 (two (-r.num) r.den))
              refine ⟨_, rfl, _, -r, rfl, ⟨p4, rfl, upd_same⟩, (by rw [fits_neg]; exact hf), _, rfl, rfl, _, rfl, ?_⟩
              rw [dec_str]
              by_cases ht : numText (-r) = b
              · rw [decide_eq_true ht]
                exact iteF ⟨_, rfl, good (-r) _ p4 ((readNum_iff b (-r)).mpr ⟨ht, by rw [fits_neg]; exact hf⟩) s5 (s4.free hp4) upd_same⟩
              · rw [decide_eq_false ht]
                refine iteT (bad ?_ _ s5)
                cases h : readNum b with
                | none => rfl
                | some q =>
                  refine absurd ?_ ht
                  rw [← sg h]
                  exact (readNum_some h).1
            · rw [decide_eq_false hd]
              rw [if_neg hd] at sg
              refine iteF ⟨_, rfl, _, r, rfl, ⟨p3, rfl, h3⟩, hf, _, rfl, rfl, _, rfl, ?_⟩
              rw [dec_str]
              by_cases ht : numText r = b
              · rw [decide_eq_true ht]
                exact iteF ⟨_, rfl, good r _ p3 ((readNum_iff b r).mpr ⟨ht, hf⟩) s4 ((s1.trans (same_new hp2 _)).free hp3) h3⟩
              · rw [decide_eq_false ht]
                refine iteT (bad ?_ _ s4)
                cases h : readNum b with
                | none => rfl
                | some q =>
                  refine absurd ?_ ht
                  rw [← sg h]
                  exact (readNum_some h).1
          · refine ⟨_, rfl, rfl, _, rfl, iteT (bad ?_ _ ((s1.trans (same_new hp2 _)).trans s3))⟩
            cases h : readNum b with
            | none => rfl
            | some q =>
              have z := (readNum_some h).2
              have zq := sg h
              by_cases hd : b.headD 0 = 45
              · rw [if_pos hd] at zq
                rw [zq, fits_neg, hf] at z
                cases z
              · rw [if_neg hd] at zq
                rw [zq, hf] at z
                cases z
      · have none : readNum b = none := by
          cases h : readNum b with
          | none => rfl
          | some q =>
            obtain ⟨_, _, z3⟩ := parts h
            rcases z3 with ⟨z3, _⟩ | ⟨d', z3, z4⟩
            · rw [hyc] at z3
              cases z3
            · rw [hyc] at z3
              cases z3
              rw [hv] at z4
              cases z4
        exact ⟨_, rfl, rfl, _, rfl, iteF ⟨_, rfl, rfl, _, rfl, iteT (iteT (no none))⟩⟩
end
end SDP
set_option Elab.async false
set_option linter.all false
set_option maxRecDepth 100000
set_option maxHeartbeats 4000000
/-! # Answers -/
namespace SDP
open PySem PySem.Spec PyProof.Rows L2 SDX SD TL
open SeamNum (Bytes)
theorem same_kp {M : List Addr} {H H1 H2 : Hp} (s : Same H H1) (k : Kp M H1 H2) (h : ∀ m ∈ M, H m = none) : Same H H2 := fun b o hb => k b o (s b o hb) (.inl fun z => by rw [h b z] at hb; cases hb)
def spAnsw : Sp := fun vs H Q _ => ∃ (n : Int) (tp sp : Addr) (ts ss : List V), vs = [.int n, .ref tp, .ref sp] ∧ H tp = some (.lst ts) ∧ H sp = some (.lst ss) ∧ ts.length ≤ 10000000 ∧ ss.length ≤ 1000 ∧
  ∀ (H' : Hp) (p : Addr), Same H H' → H' p = some (.lst ([.int n, .int ts.length] ++ ts ++ [.int ss.length] ++ ss)) → Q (.ref p) H'
theorem roomH_mk {k : Nat} {A : Around} (r : Room k A) (h : Option Value) : L2H.RoomH k (A.mark h) := ⟨r.dp, r.un⟩
theorem passAt0 {X : Cx} {E : XK} (σ : L2.St) : PassesAt CX0 X σ E := fun _ _ _ _ _ _ h => h.elim
theorem answ_pure {K : PySem.W.Frag} {D : Ends} {n : Int} {tp sp : Addr} {ts ss : List V} {H : Hp} (h1 : H tp = some (.lst ts)) (h2 : H sp = some (.lst ss)) (l1 : ts.length ≤ 10000000) (l2 : ss.length ≤ 1000)
    (q : ∀ (H' : Hp) (p : Addr), Same H H' → H' p = some (.lst ([.int n, .int ts.length] ++ ts ++ [.int ss.length] ++ ss)) → D.rt (.ref p) H') :
    tRet (tOp rCat (tOp rCat (tOp rCat (tLst (tCons (tVar 0) (tCons (fun σ H Q => (tCons (tVar 1) tNil) σ H fun xs H1 => ∃ p ys, xs = [.ref p] ∧ (SqL K H1 p ys ∨ SqT K H1 p ys) ∧ Q (.int ys.length) H1) tNil))) (tVar 1))
      (tLst (tCons (fun σ H Q => (tCons (tVar 2) tNil) σ H fun xs H1 => ∃ p ys, xs = [.ref p] ∧ (SqL K H1 p ys ∨ SqT K H1 p ys) ∧ Q (.int ys.length) H1) tNil))) (tVar 2)) D [some (.int n), some (.ref tp), some (.ref sp)] H := by
  refine ⟨_, rfl, _, rfl, tp, _, rfl, .inl (SqL.of h1), (by show 2 ≤ sizeLine; decide), fun p1 hp1 => ?_⟩
  have s1 : Same H (upd H p1 (.lst [.int n, .int ts.length])) := same_new hp1 _
  have e1 : (upd H p1 (.lst [.int n, .int ts.length])) p1 = some (.lst [.int n, .int ts.length]) := upd_same
  generalize upd H p1 (.lst [.int n, .int ts.length]) = H1 at s1 e1 ⊢
  refine ⟨_, rfl, p1, tp, _, _, rfl, rfl, e1, s1 _ _ h1, by rw [sizeLine_eq]; show 2 + _ ≤ _; omega, fun p2 hp2 => ?_⟩
  have s2 : Same H1 (upd H1 p2 (.lst ([.int n, .int ts.length] ++ ts))) := same_new hp2 _
  have e2 : (upd H1 p2 (.lst ([.int n, .int ts.length] ++ ts))) p2 = some (.lst ([.int n, .int ts.length] ++ ts)) := upd_same
  generalize upd H1 p2 (.lst ([.int n, .int ts.length] ++ ts)) = H2 at s2 e2 ⊢
  refine ⟨_, rfl, sp, _, rfl, .inl (SqL.of (s2 _ _ (s1 _ _ h2))), (by show 1 ≤ sizeLine; decide), fun p3 hp3 => ?_⟩
  have s3 : Same H2 (upd H2 p3 (.lst [.int ss.length])) := same_new hp3 _
  have e3 : (upd H2 p3 (.lst [.int ss.length])) p3 = some (.lst [.int ss.length]) := upd_same
  generalize upd H2 p3 (.lst [.int ss.length]) = H3 at s3 e3 ⊢
  refine ⟨p2, p3, _, _, rfl, rfl, s3 _ _ e2, e3, by rw [sizeLine_eq, List.length_append]; show 2 + _ + 1 ≤ _; omega, fun p4 hp4 => ?_⟩
  have s4 : Same H3 (upd H3 p4 (.lst ([.int n, .int ts.length] ++ ts ++ [.int ss.length]))) := same_new hp4 _
  have e4 : (upd H3 p4 (.lst ([.int n, .int ts.length] ++ ts ++ [.int ss.length]))) p4 = some (.lst ([.int n, .int ts.length] ++ ts ++ [.int ss.length])) := upd_same
  generalize upd H3 p4 (.lst ([.int n, .int ts.length] ++ ts ++ [.int ss.length])) = H4 at s4 e4 ⊢
  refine ⟨_, rfl, p4, sp, _, _, rfl, rfl, e4, s4 _ _ (s3 _ _ (s2 _ _ (s1 _ _ h2))), by rw [sizeLine_eq, List.length_append, List.length_append]; show 2 + _ + 1 + _ ≤ _; omega, fun p5 hp5 => ?_⟩
  exact q _ p5 ((((s1.trans s2).trans s3).trans s4).trans (same_new hp5 _)) upd_same
section
variable {P : Program} {w : World} {K : PySem.W.Frag} {mg : Str → Option Value} {base : Heap}
theorem scAnsw : FnScope ["number", "told", "signed"] ["number", "told", "signed"] (defScope sAnsw) := ⟨rfl, rfl, rfl, by decide +kernel, rfl, by decide +kernel, by decide +kernel⟩
theorem ok_answ {f : Addr} {fd : FuncData} (F : Fn1 K mg "answer" sAnsw ["number", "told", "signed"] f fd) (ml : mg "len" = none) : FnOk P w K mg base CX0 1 f fd ["number", "told", "signed"] spAnsw := by
  refine F.F.ok scAnsw (fun vs H Q E h => ?_) (fun cdv A0 outer s H vs Q E hr h => ?_)
  · obtain ⟨n, tp, sp, ts, ss, rfl, _⟩ := h
    rfl
  obtain ⟨n, tp, sp, ts, ss, rfl, h1, h2, l1, l2, q⟩ := h
  refine ⟨_, pss_one (ps_ret (pe_op op_cat (pe_op op_cat (pe_op op_cat (pe_lst (pa_cons (pv 0) (pa_cons (pe_callB call_len_seq rfl ml PySem.boot_len (pa_cons (pv 1) pa_nil)) pa_nil))) (pv 1)) (pe_lst (pa_cons (pe_callB call_len_seq rfl ml PySem.boot_len (pa_cons (pv 2) pa_nil)) pa_nil))) (pv 2))), ?_⟩
  exact answ_pure h1 h2 l1 l2 q
theorem ok_answH {f : Addr} {fd : FuncData} (F : Fn1 K mg "answer" sAnsw ["number", "told", "signed"] f fd) (ml : mg "len" = none) : L2H.FnH P w K mg base CX0 1 f fd ["number", "told", "signed"] spAnsw := by
  refine okH F.F scAnsw (fun vs H Q E h => ?_) (fun cdv A0 outer s H vs Q E p hot hr h => ?_)
  · obtain ⟨n, tp, sp, ts, ss, rfl, _⟩ := h
    rfl
  obtain ⟨n, tp, sp, ts, ss, rfl, h1, h2, l1, l2, q⟩ := h
  refine ⟨_, pss_one (ps_ret (pe_op op_cat (pe_op op_cat (pe_op op_cat (pe_lst (pa_cons (pv 0) (pa_cons (pe_callB call_len_seq rfl ml PySem.boot_len (pa_cons (pv 1) pa_nil)) pa_nil))) (pv 1)) (pe_lst (pa_cons (pe_callB call_len_seq rfl ml PySem.boot_len (pa_cons (pv 2) pa_nil)) pa_nil))) (pv 2))), ?_⟩
  exact answ_pure h1 h2 l1 l2 q
end
end SDP
set_option Elab.async false
set_option linter.all false
set_option maxRecDepth 100000
set_option maxHeartbeats 4000000
/-! # Errors together, check_lengths -/
namespace SDP
open PySem PySem.Spec PyProof.Rows L2 SDX SD TL
open SeamNum (Bytes)
theorem paired_fst {α β : Type} {R : α → β → Prop} : ∀ {l : List α} {m : List β} (h : Paired R l m) (i : Nat) (x : α), l[i]? = some x → ∃ y, m[i]? = some y ∧ R x y
  | _, _, .nil, i, x, e => by simp at e
  | _, _, .cons r p, 0, x, e => by
    simp only [List.getElem?_cons_zero, Option.some.injEq] at e
    subst e
    exact ⟨_, rfl, r⟩
  | _, _, .cons r p, i + 1, x, e => by
    rw [List.getElem?_cons_succ] at e ⊢
    exact paired_fst p i x e
section
variable {P : Program} {w : World} {K : PySem.W.Frag} {mg : Str → Option Value} {base : Heap}
/-- Refusal, TooLong, as classes -/
structure RefAd where
  cRef : Addr
  fRef : Addr
  dRef : FuncData
  mc : Value
  cT : Addr
  fT : Addr
  dT : FuncData
structure RefC (K : PySem.W.Frag) (mg : Str → Option Value) (R : RefAd) : Prop where
  ref : ErrC K mg "Refusal" R.cRef R.fRef
  FRef : L2.Fun K "__init__" "Refusal.__init__" sRefI R.fRef R.dRef
  bRef : L2.Binds K R.dRef ["self", "number", "signed"] []
  cr : ClX.CRead K R.cRef R.mc
  cv : PySem.W.findCls K (.ref R.cRef) R.mc "__init__" = some (.val (.ref R.fRef))
  mE : mg "Exception" = none
  vE : PySem.W.findCls K (.type "Exception") (.type "type") "__init__" = some (.val (.builtin "Exception.__init__"))
  too : ErrC K mg "TooLong" R.cT R.fT
  FT : L2.Fun K "__init__" "TooLong.__init__" sTooI R.fT R.dT
  bT : L2.Binds K R.dT ["self"] []
  xT : PySem.W.exmOne K (.ref R.cT) (.ref R.cRef) = some true
/-! ### check_lengths -/
def spCheck (K : PySem.W.Frag) (R : RefAd) : Sp := fun vs H Q E => ∃ (l : Addr) (as : List Addr) (ns : List Nat), vs = [.ref l] ∧ H l = some (.lst (as.map V.ref)) ∧ Paired (fun a n => ∃ xs, SqL K H a xs ∧ xs.length = n) as ns ∧ ((∀ n ∈ ns, n ≤ 4096) → Q .non H) ∧ ((∃ n ∈ ns, 4096 < n) → Rs R.cT E (-1) [])
theorem scCheck : FnScope ["texts", "text"] ["texts"] (defScope sCheck) := ⟨rfl, rfl, rfl, by decide +kernel, rfl, by decide +kernel, by decide +kernel⟩
theorem ok_check {R : RefAd} (T : RefC K mg R) {f : Addr} {fd : FuncData} (F : Fn1 K mg "check_lengths" sCheck ["texts"] f fd) (ml : mg "len" = none) (LT : Gi mg "LONGEST_TEXT" 4096) : FnOk P w K mg base (L2N.CX P w) 4 f fd ["texts"] (spCheck K R) := by
  refine okN F.F scCheck (fun vs H Q E h => ?_) (fun cdv A0 outer s H vs Q E hr h => ?_)
  · obtain ⟨l, as, ns, rfl, _⟩ := h
    rfl
  obtain ⟨l, as, ns, rfl, hl, hp, good, rs⟩ := h
  have hr3 : Room 3 _ := hr.mono (by omega)
  have tk := L2N.takes_of (X := cxOf (L2N.CX P w) P w K mg base ["texts", "text"] "check_lengths" (defScope sCheck) f cdv A0 outer s H E) (E := E) rfl rfl rfl rfl
  refine ⟨_, pss_one (ps_for (passes_of rfl) rfl (pi_list (pv 0)) (pg_name (i := 1) scCheck.nd rfl (Or.inl rfl))
      (pss_one (ps_if (pt_cmpR op_gt (pe_callB call_len_seq rfl ml PySem.boot_len (pa_cons (pv 1) pa_nil)) (pe_gi rfl LT) (nomark _))
        (pss_one (L2N.ps_raise rfl tk (pmk_exN0 T.too.ex T.too.iC T.too.tI (ok_tooI T.FT T.FRef T.bRef T.ref.g T.cr T.cv T.mE T.vE) hr3 T.bT pass0 rfl T.too.g))) pss_nil))), ?_⟩
  have len : as.length = ns.length := Paired.length hp
  refine ⟨_, rfl, l, rfl, ⟨_, SqL.of hl⟩, for_list (xs := as.map V.ref) (fun i σ H' => H = H' ∧ (∃ o, σ = [some (.ref l), o]) ∧ ∀ n ∈ ns.take i, n ≤ 4096) ⟨rfl, ⟨none, rfl⟩, by simp⟩ (fun i σ H' _ ⟨e, _⟩ => by rw [← e]; exact SqL.of hl) (fun i v σ H' hi ⟨e, ⟨o, eσ⟩, al⟩ => ?_) (fun σ H' ⟨e, _, al⟩ => ?_)⟩
  · subst e
    subst eσ
    rw [List.getElem?_map] at hi
    cases ha : as[i]? with
    | none => rw [ha] at hi; cases hi
    | some a =>
      rw [ha] at hi
      obtain rfl : V.ref a = v := Option.some.inj hi
      obtain ⟨n, hn, xs, hx, ex⟩ := paired_fst hp i a ha
      refine ⟨_, rfl, a, xs, rfl, .inl hx, _, _, rfl, rfl, _, rfl, ?_⟩
      rw [ex]
      refine ite2 (fun c => ?_) (fun c => ?_)
      · have c' : 4096 < n := by have := of_decide_eq_true c; omega
        show tMkN R.cT (spTooI K) tNil _ _ _
        exact mk_too T.too (rs ⟨n, List.mem_of_getElem? hn, c'⟩)
      · have c' : n ≤ 4096 := by have := of_decide_eq_false (Bool.eq_false_iff.mpr c); omega
        refine ⟨rfl, ⟨_, rfl⟩, fun k hk => ?_⟩
        rw [List.take_add_one, hn] at hk
        rcases List.mem_append.mp hk with z | z
        · exact al k z
        · simp at z
          rw [z]
          exact c'
  · subst e
    rw [List.length_map, len, List.take_length] at al
    exact good al
end
end SDP
set_option Elab.async false
set_option linter.all false
set_option maxRecDepth 100000
set_option maxHeartbeats 4000000
set_option exponentiation.threshold 100000
/-! # pieces.py -/
namespace SDP
open PySem PySem.Spec PyProof.Rows L2 SDX SD TL SR
open SeamNum (Bytes fits FINE Point fitsP)


/-- a point's tuple -/
def PtAt (H : Hp) (v : V) (p : Point) : Prop := ∃ a vx vy, v = .ref a ∧ H a = some (.tup [vx, vy]) ∧ Nm H vx p.1 ∧ Nm H vy p.2
theorem PtAt.kp {M : List Addr} {H H' : Hp} {v : V} {p : Point} (h : PtAt H v p) (k : Kp M H H') : PtAt H' v p := by
  obtain ⟨a, vx, vy, e, q, h1, h2⟩ := h
  exact ⟨a, vx, vy, e, k _ _ q (.inr rfl), h1.kp k, h2.kp k⟩
theorem PtAt.same {H H' : Hp} {v : V} {p : Point} (h : PtAt H v p) (s : Same H H') : PtAt H' v p := h.kp (Kp.same (M := []) s)
def RowL (H : Hp) (l : Addr) (r : SeamPoly.Row) : Prop := ∃ vs, H l = some (.lst vs) ∧ Paired (PtAt H) vs r
theorem RowL.same {H H' : Hp} {l : Addr} {r : SeamPoly.Row} (h : RowL H l r) (s : Same H H') : RowL H' l r := by
  obtain ⟨vs, e, q⟩ := h
  exact ⟨vs, s _ _ e, paired_map (fun _ _ z => z.same s) q⟩
/-- corners as whole numbers, in a list -/
def WL (H : Hp) (l : Addr) (W : WRow) : Prop := ∃ vs, H l = some (.lst vs) ∧ Paired (fun v (P : IP) => Tw H v P.1 P.2) vs W
theorem WL.same {H H' : Hp} {l : Addr} {W : WRow} (h : WL H l W) (s : Same H H') : WL H' l W := by
  obtain ⟨vs, e, q⟩ := h
  exact ⟨vs, s _ _ e, paired_map (fun _ _ z => z.same s) q⟩
def WB (P : IP) : Prop := P.1.natAbs < 2 ^ 2300 ∧ P.2.natAbs < 2 ^ 2300
section
variable {P : Program} {w : World} {K : PySem.W.Frag} {mg : Str → Option Value} {base : Heap}
/-! ### common_below -/
def spBelow : Sp := fun vs H Q _ => ∃ (l : Addr) (r : SeamPoly.Row), vs = [.ref l] ∧ RowL H l r ∧ (∀ p ∈ r, fitsP p = true) ∧ r.length ≤ 200 ∧ Q (.int (belowTo r r.length)) H
theorem scBelow : FnScope ["corners", "below", "x", "y"] ["corners"] (defScope S_common_below) := ⟨rfl, rfl, rfl, by decide +kernel, rfl, by decide +kernel, by decide +kernel⟩
theorem den_bits {q : Rat} (h : fits q = true) : (q.den : Int).natAbs < 2 ^ 63 := by
  rw [Int.natAbs_natCast]
  exact (fits_bits h).2
theorem num_bits {q : Rat} (h : fits q = true) : q.num.natAbs < 2 ^ 63 := (fits_bits h).1
theorem fitsP_two {p : Point} (h : fitsP p = true) : fits p.1 = true ∧ fits p.2 = true := by
  unfold SeamNum.fitsP at h
  rwa [Bool.and_eq_true] at h
theorem ok_below {f : Addr} {fd : FuncData} (F : Fn1 K mg "common_below" S_common_below ["corners"] f fd) : FnOk P w K mg base CX0 1 f fd ["corners"] spBelow := by
  refine F.F.ok scBelow (fun vs H Q E h => ?_) (fun cdv A outer s H vs Q E hr h => ?_)
  · obtain ⟨l, r, rfl, _⟩ := h
    rfl
  obtain ⟨l, r, rfl, ⟨vs, hl, hp⟩, hf, h16, k⟩ := h
  refine ⟨_, pss_cons (ps_set (i := 1) scBelow.nd rfl (Or.inl rfl) pe_int)
    (pss_cons (ps_for PassesOwn.never rfl (pi_list (pv 0)) (pg_tup rfl (pgs_cons (pg_name (i := 2) scBelow.nd rfl (Or.inl rfl)) (pgs_cons (pg_name (i := 3) scBelow.nd rfl (Or.inl rfl)) pgs_nil)))
      (pss_one (ps_set (i := 1) scBelow.nd rfl (Or.inl rfl) (pe_op op_mulV (pe_op op_mulV (pv 1) (pe_ix ix_tup (pv 2) pe_int (fun _ _ => rfl))) (pe_ix ix_tup (pv 3) pe_int (fun _ _ => rfl))))))
    (pss_one (ps_ret (pv 1)))), ?_⟩
  have elen : vs.length = r.length := Paired.length hp
  refine ⟨_, rfl, l, rfl, ⟨_, SqL.of hl⟩, for_list (xs := vs) (fun i σ H' => H' = H ∧ ∃ o2 o3, σ = [some (.ref l), some (.int (belowTo r i)), o2, o3]) ⟨rfl, none, none, rfl⟩ (fun i σ H' _ ⟨e, _⟩ => by rw [e]; exact SqL.of hl) (fun i v σ H' hi ⟨e, o2, o3, eσ⟩ => ?_) (fun σ H' ⟨e, o2, o3, eσ⟩ => ?_)⟩
  · subst e
    subst eσ
    obtain ⟨p, hpi, a, vx, vy, rfl, ha, ⟨ax, rfl, hx⟩, ⟨ay, rfl, hy⟩⟩ := paired_fst hp i v hi
    obtain ⟨f1, f2⟩ := fitsP_two (hf p (List.mem_of_getElem? hpi))
    have ib : i ≤ r.length := by have := (List.getElem?_eq_some_iff.mp hpi).1; omega
    have bb := belowTo_bits hf i ib
    have b1 : (belowTo r i).natAbs < 2 ^ 26000 := Nat.lt_of_lt_of_le bb (Nat.pow_le_pow_right (by decide) (by omega))
    have b2 : (belowTo r i * (p.1.den : Int)).natAbs < 2 ^ 26063 := by
      rw [Int.natAbs_mul]
      exact mul_bits b1 (den_bits f1)
    refine ⟨a, _, rfl, SqT.of ha, rfl, _, _, rfl, _, _, rfl, rfl, ?_⟩
    refine ⟨_, rfl, _, rfl, ax, _, 1, .int p.1.den, rfl, rfl, SqT.of hx, atI_nat (j := 1) rfl, _, _, rfl, rfl, mulV b1 (den_bits f1) (by decide), ?_⟩
    refine ⟨_, rfl, ay, _, 1, .int p.2.den, rfl, rfl, SqT.of hy, atI_nat (j := 1) rfl, _, _, rfl, rfl, mulV b2 (den_bits f2) (by decide), ?_⟩
    exact ⟨rfl, _, _, by rw [belowTo_succ hpi]; rfl⟩
  · subst e
    subst eσ
    rw [elen]
    exact ⟨_, rfl, k⟩
/-! ### whole_corners -/
def spWholeC (K : PySem.W.Frag) : Sp := fun vs H Q _ => ∃ (l : Addr) (r : SeamPoly.Row) (D : Int), vs = [.ref l, .int D] ∧ RowL H l r ∧ (∀ p ∈ r, fitsP p = true) ∧ r.length ≤ 200 ∧ 0 < D ∧ D.natAbs < 2 ^ 26000 ∧ ∀ H' p, Same H H' → H p = none → WL H' p (r.map (wholeP D)) → Q (.ref p) H'
theorem scWholeC : FnScope ["corners", "below", "x", "y"] ["corners", "below"] (defScope S_whole_corners) := ⟨rfl, rfl, rfl, by decide +kernel, rfl, by decide +kernel, by decide +kernel⟩
theorem div_small {D d : Int} (h0 : 0 < D) (hd : 0 < d) (hb : D.natAbs < 2 ^ 26000) : (D / d).natAbs < 2 ^ 26000 := by
  have := Int.ediv_le_self d (Int.le_of_lt h0)
  have := Int.ediv_nonneg (Int.le_of_lt h0) (Int.le_of_lt hd)
  omega
theorem ok_wholeC {f : Addr} {fd : FuncData} (F : Fn1 K mg "whole_corners" S_whole_corners ["corners", "below"] f fd) : FnOk P w K mg base CX0 1 f fd ["corners", "below"] (spWholeC K) := by
  refine F.F.ok scWholeC (fun vs H Q E h => ?_) (fun cdv A outer s H vs Q E hr h => ?_)
  · obtain ⟨l, r, D, rfl, _⟩ := h
    rfl
  obtain ⟨l, r, D, rfl, ⟨vs, hl, hp⟩, hf, h16, h0, hb, k⟩ := h
  refine ⟨_, pss_one (ps_ret (pe_lc (own := [("x", 2), ("y", 3)]) (g := gTup K 2 (gCons (gName 2) (gCons (gName 3) gNil))) (tt := tYes) rfl scWholeC.nd (pi_list (pv 0)) (blkOk_by (N := ["corners", "below", "x", "y"]) (sc := defScope S_whole_corners) (by decide +kernel))
      (fun _ _ _ _ _ => pg_tup rfl (pgs_cons (pg_name (i := 2) scWholeC.nd rfl (Or.inl rfl)) (pgs_cons (pg_name (i := 3) scWholeC.nd rfl (Or.inl rfl)) pgs_nil))) (fun _ _ _ _ _ => pts_nil)
      (fun _ _ _ _ _ => pe_tup (pa_cons (pe_op op_mulV (pe_ix (ix_tup : IxR _ (rIxT K)) (pv 2) pe_int (fun _ _ => rfl)) (pe_op op_fdivW (pv 1) (pe_ix (ix_tup : IxR _ (rIxT K)) (pv 2) pe_int (fun _ _ => rfl))))
        (pa_cons (pe_op op_mulV (pe_ix (ix_tup : IxR _ (rIxT K)) (pv 3) pe_int (fun _ _ => rfl)) (pe_op op_fdivW (pv 1) (pe_ix (ix_tup : IxR _ (rIxT K)) (pv 3) pe_int (fun _ _ => rfl)))) pa_nil))))), ?_⟩
  have elen : vs.length = r.length := Paired.length hp
  refine ⟨_, rfl, l, rfl, ⟨_, SqL.of hl⟩, fun D2 hD2 => ?_⟩
  have nl : l ≠ D2 := fun z => by rw [z, hD2] at hl; cases hl
  refine lc_list (xs := vs) (fun i H' => ∃ as : List V, Same H H' ∧ H' D2 = some (.lst as) ∧ Paired (fun v (P : IP) => Tw H' v P.1 P.2) as ((r.map (wholeP D)).take i)) ⟨[], same_new hD2 _, upd_same, .nil⟩ (fun i H' _ ⟨_, s, _, _⟩ => SqL.of (s _ _ hl)) (fun i v H' hi ⟨as, s1, s2, s3⟩ => ?_) (fun H' ⟨as, s1, s2, s3⟩ => ?_)
  · obtain ⟨p, hpi, a, vx, vy, rfl, ha, ⟨ax, rfl, hx⟩, ⟨ay, rfl, hy⟩⟩ := paired_fst hp i v hi
    obtain ⟨f1, f2⟩ := fitsP_two (hf p (List.mem_of_getElem? hpi))
    have q1 := den_pos p.1
    have q2 := den_pos p.2
    have las : as.length ≤ 200 := by
      rw [Paired.length s3, List.length_take, List.length_map]
      omega
    have er : (r.map (wholeP D))[i]? = some (wholeP D p) := by rw [List.getElem?_map, hpi]; rfl
    refine ⟨a, _, rfl, SqT.of (s1 _ _ ha), rfl, _, _, rfl, _, _, rfl, rfl, ?_⟩
    refine ⟨rfl, _, rfl, ax, _, 0, .int p.1.num, rfl, rfl, SqT.of (s1 _ _ hx), atI_nat (j := 0) rfl, _, rfl, _, rfl, ax, _, 1, .int p.1.den, rfl, rfl, SqT.of (s1 _ _ hx), atI_nat (j := 1) rfl, _, _, rfl, rfl, wide_div q1 (den_bits f1) (by decide) (by decide), _, _, rfl, rfl, mulV (num_bits f1) (div_small h0 q1 hb) (by decide), ?_⟩
    refine ⟨_, rfl, ay, _, 0, .int p.2.num, rfl, rfl, SqT.of (s1 _ _ hy), atI_nat (j := 0) rfl, _, rfl, _, rfl, ay, _, 1, .int p.2.den, rfl, rfl, SqT.of (s1 _ _ hy), atI_nat (j := 1) rfl, _, _, rfl, rfl, wide_div q2 (den_bits f2) (by decide) (by decide), _, _, rfl, rfl, mulV (num_bits f2) (div_small h0 q2 hb) (by decide), ?_⟩
    refine ⟨by show 2 ≤ sizeLine; decide, fun t ht => ⟨as, ?_, by rw [sizeLine_eq]; omega, as ++ [.ref t], ?_, ?_, ?_⟩⟩
    · rw [upd_ne (ne_of_none s2 ht)]
      exact s2
    · intro b o hb'
      have hbD : b ≠ D2 := ne_of_none hb' hD2
      rw [upd_ne hbD, upd_ne (ne_of_none (s1 b o hb') ht)]
      exact s1 b o hb'
    · rw [upd_same]
    · rw [List.take_add_one, er]
      have ntD : t ≠ D2 := fun z => by rw [z, s2] at ht; cases ht
      refine paired_snoc (paired_map (fun v P z => ?_) s3) ⟨t, rfl, ?_⟩
      · obtain ⟨b, e, hb'⟩ := z
        refine ⟨b, e, ?_⟩
        have h1 : b ≠ D2 := (ne_of s2 hb' (fun z => by cases z)).symm
        rw [upd_ne h1, upd_ne (ne_of_none hb' ht)]
        exact hb'
      · rw [upd_ne ntD, upd_same]
        rfl
  · have e2 : (r.map (wholeP D)).take vs.length = r.map (wholeP D) := List.take_of_length_le (by rw [List.length_map, elen]; exact Nat.le_refl _)
    rw [e2] at s3
    exact k H' D2 s1 hD2 ⟨as, s2, s3⟩
/-! ### side, apart, have_common_point -/
def spSide : Sp := fun vs H Q _ => ∃ u v x A B C, vs = [u, v, x] ∧ Tw H u A.1 A.2 ∧ Tw H v B.1 B.2 ∧ Tw H x C.1 C.2 ∧ WB A ∧ WB B ∧ WB C ∧ Q (.int (sideI A B C)) H
theorem scSide : FnScope ["a", "b", "c"] ["a", "b", "c"] (defScope S_side) := ⟨rfl, rfl, rfl, by decide +kernel, rfl, by decide +kernel, by decide +kernel⟩
theorem sub_bits {x y : Int} {b : Nat} (hx : x.natAbs < 2 ^ b) (hy : y.natAbs < 2 ^ b) : (x - y).natAbs < 2 ^ (b + 1) := by
  rw [Nat.pow_succ]
  omega
theorem add_bits {x y : Int} {b : Nat} (hx : x.natAbs < 2 ^ b) (hy : y.natAbs < 2 ^ b) : (x + y).natAbs < 2 ^ (b + 1) := by
  rw [Nat.pow_succ]
  omega
theorem mulI_bits {x y : Int} {b c : Nat} (hx : x.natAbs < 2 ^ b) (hy : y.natAbs < 2 ^ c) : (x * y).natAbs < 2 ^ (b + c) := by
  rw [Int.natAbs_mul]
  exact mul_bits hx hy
theorem side_bits {A B C : IP} (hA : WB A) (hB : WB B) (hC : WB C) : (sideI A B C).natAbs < 2 ^ 4603 := by
  unfold sideI
  exact sub_bits (mulI_bits (sub_bits hB.1 hA.1) (sub_bits hC.2 hA.2)) (mulI_bits (sub_bits hB.2 hA.2) (sub_bits hC.1 hA.1))
theorem ok_side {f : Addr} {fd : FuncData} (F : Fn1 K mg "side" S_side ["a", "b", "c"] f fd) : FnOk P w K mg base CX0 1 f fd ["a", "b", "c"] spSide := by
  refine F.F.ok scSide (fun vs H Q E h => ?_) (fun cdv A outer s H vs Q E hr h => ?_)
  · obtain ⟨u, v, x, A, B, C, rfl, _⟩ := h
    rfl
  obtain ⟨u, v, x, A, B, C, rfl, ⟨a, rfl, ha⟩, ⟨b, rfl, hb⟩, ⟨c, rfl, hc⟩, wA, wB, wC, k⟩ := h
  refine ⟨_, pss_one (ps_ret (pe_op op_sub
    (pe_op op_mulV (pe_op op_sub (pe_ix ix_tup (pv 1) pe_int (fun _ _ => rfl)) (pe_ix ix_tup (pv 0) pe_int (fun _ _ => rfl))) (pe_op op_sub (pe_ix ix_tup (pv 2) pe_int (fun _ _ => rfl)) (pe_ix ix_tup (pv 0) pe_int (fun _ _ => rfl))))
    (pe_op op_mulV (pe_op op_sub (pe_ix ix_tup (pv 1) pe_int (fun _ _ => rfl)) (pe_ix ix_tup (pv 0) pe_int (fun _ _ => rfl))) (pe_op op_sub (pe_ix ix_tup (pv 2) pe_int (fun _ _ => rfl)) (pe_ix ix_tup (pv 0) pe_int (fun _ _ => rfl)))))), ?_⟩
  refine ⟨_, rfl, b, _, 0, .int B.1, rfl, rfl, SqT.of hb, atI_nat (j := 0) rfl, _, rfl, a, _, 0, .int A.1, rfl, rfl, SqT.of ha, atI_nat (j := 0) rfl, _, _, rfl, rfl, ?_⟩
  refine ⟨_, rfl, c, _, 1, .int C.2, rfl, rfl, SqT.of hc, atI_nat (j := 1) rfl, _, rfl, a, _, 1, .int A.2, rfl, rfl, SqT.of ha, atI_nat (j := 1) rfl, _, _, rfl, rfl, ?_⟩
  refine ⟨_, _, rfl, rfl, mulV (sub_bits wB.1 wA.1) (sub_bits wC.2 wA.2) (by decide), ?_⟩
  refine ⟨_, rfl, b, _, 1, .int B.2, rfl, rfl, SqT.of hb, atI_nat (j := 1) rfl, _, rfl, a, _, 1, .int A.2, rfl, rfl, SqT.of ha, atI_nat (j := 1) rfl, _, _, rfl, rfl, ?_⟩
  refine ⟨_, rfl, c, _, 0, .int C.1, rfl, rfl, SqT.of hc, atI_nat (j := 0) rfl, _, rfl, a, _, 0, .int A.1, rfl, rfl, SqT.of ha, atI_nat (j := 0) rfl, _, _, rfl, rfl, ?_⟩
  exact ⟨_, _, rfl, rfl, mulV (sub_bits wB.2 wA.2) (sub_bits wC.1 wA.1) (by decide), _, _, rfl, rfl, k⟩
def spApart : Sp := fun vs H Q _ => ∃ a b c d : Int, vs = [.int a, .int b, .int c, .int d] ∧ Q (.bl (offB a b c d)) H
theorem scApart : FnScope ["a", "b", "c", "d"] ["a", "b", "c", "d"] (defScope S_apart) := ⟨rfl, rfl, rfl, by decide +kernel, rfl, by decide +kernel, by decide +kernel⟩
theorem max_if (a b : Int) : (if b > a then b else a) = max a b := by omega
theorem min_if (a b : Int) : (if b < a then b else a) = min a b := by omega
theorem ok_apart {f : Addr} {fd : FuncData} (F : Fn1 K mg "apart" S_apart ["a", "b", "c", "d"] f fd) (mM : mg "max" = none) (mN : mg "min" = none) : FnOk P w K mg base CX0 1 f fd ["a", "b", "c", "d"] spApart := by
  refine F.F.ok scApart (fun vs H Q E h => ?_) (fun cdv A outer s H vs Q E hr h => ?_)
  · obtain ⟨a, b, c, d, rfl, _⟩ := h
    rfl
  obtain ⟨a, b, c, d, rfl, k⟩ := h
  refine ⟨_, pss_one (ps_ret (pe_or (pe_cmpR op_lt (pe_callB (call_max2 rfl) rfl mM PyProof.Rows.boot_max (pa_cons (pv 0) (pa_cons (pv 1) pa_nil))) (pe_callB (call_min2 rfl) rfl mN (by decide +kernel) (pa_cons (pv 2) (pa_cons (pv 3) pa_nil))) (nomark _))
    (pe_one (pe_cmpR op_lt (pe_callB (call_max2 rfl) rfl mM PyProof.Rows.boot_max (pa_cons (pv 2) (pa_cons (pv 3) pa_nil))) (pe_callB (call_min2 rfl) rfl mN (by decide +kernel) (pa_cons (pv 0) (pa_cons (pv 1) pa_nil))) (nomark _))))), ?_⟩
  have e1 := max_if a b
  have e2 := min_if a b
  have e3 := max_if c d
  have e4 := min_if c d
  unfold offB at k
  refine ⟨_, rfl, _, rfl, a, b, rfl, _, rfl, _, rfl, c, d, rfl, _, _, rfl, rfl, _, rfl, ?_⟩
  rw [e1, e4]
  cases hx : decide (max a b < min c d) with
  | true =>
    rw [hx] at k
    exact iteT k
  | false =>
    rw [hx] at k
    refine iteF ⟨_, rfl, _, rfl, c, d, rfl, _, rfl, _, rfl, a, b, rfl, _, _, rfl, rfl, ?_⟩
    rw [e3, e2]
    exact k
structure HitT (K : PySem.W.Frag) (mg : Str → Option Value) (fS fA fH : Addr) (dS dA dH : FuncData) : Prop where
  S : Fn1 K mg "side" S_side ["a", "b", "c"] fS dS
  A : Fn1 K mg "apart" S_apart ["a", "b", "c", "d"] fA dA
  H : Fn1 K mg "have_common_point" S_have_common_point ["a", "b", "c", "d"] fH dH
  max : mg "max" = none
  min : mg "min" = none
def spHit : Sp := fun vs H Q _ => ∃ u v x y A B C E, vs = [u, v, x, y] ∧ Tw H u A.1 A.2 ∧ Tw H v B.1 B.2 ∧ Tw H x C.1 C.2 ∧ Tw H y E.1 E.2 ∧ WB A ∧ WB B ∧ WB C ∧ WB E ∧ Q (.bl (hitB A B C E)) H
theorem scHit : FnScope ["a", "b", "c", "d"] ["a", "b", "c", "d"] (defScope S_have_common_point) := ⟨rfl, rfl, rfl, by decide +kernel, rfl, by decide +kernel, by decide +kernel⟩
theorem ok_hit {fS fA fH : Addr} {dS dA dH : FuncData} (T : HitT K mg fS fA fH dS dA dH) : FnOk P w K mg base CX0 2 fH dH ["a", "b", "c", "d"] spHit := by
  refine T.H.F.ok scHit (fun vs H Q E h => ?_) (fun cdv A0 outer s H vs Q E0 hr h => ?_)
  · obtain ⟨u, v, x, y, A, B, C, E, rfl, _⟩ := h
    rfl
  obtain ⟨u, v, x, y, A, B, C, E, rfl, ⟨a, rfl, ha⟩, ⟨b, rfl, hb⟩, ⟨c, rfl, hc⟩, ⟨d, rfl, hd⟩, wA, wB, wC, wE, k⟩ := h
  have okS := ok_side (P := P) (w := w) (base := base) T.S
  have okA := ok_apart (P := P) (w := w) (base := base) T.A T.max T.min
  refine ⟨_, pss_cons (ps_if (PW.pt (pw_or
      (pt_val (pe_call okA hr rfl T.A.m T.A.F.kp T.A.b .nil pass0 (pa_cons (pe_ix ix_tup (pv 0) pe_int (fun _ _ => rfl)) (pa_cons (pe_ix ix_tup (pv 1) pe_int (fun _ _ => rfl)) (pa_cons (pe_ix ix_tup (pv 2) pe_int (fun _ _ => rfl)) (pa_cons (pe_ix ix_tup (pv 3) pe_int (fun _ _ => rfl)) pa_nil))))))
      (pw_or1 (pt_val (pe_call okA hr rfl T.A.m T.A.F.kp T.A.b .nil pass0 (pa_cons (pe_ix ix_tup (pv 0) pe_int (fun _ _ => rfl)) (pa_cons (pe_ix ix_tup (pv 1) pe_int (fun _ _ => rfl)) (pa_cons (pe_ix ix_tup (pv 2) pe_int (fun _ _ => rfl)) (pa_cons (pe_ix ix_tup (pv 3) pe_int (fun _ _ => rfl)) pa_nil)))))))))
      (pss_one (ps_ret pe_bl)) pss_nil)
    (pss_one (ps_ret (pe_and (pe_cmpR op_le (pe_op op_mulV (pe_call okS hr rfl T.S.m T.S.F.kp T.S.b .nil pass0 (pa_cons (pv 0) (pa_cons (pv 1) (pa_cons (pv 2) pa_nil)))) (pe_call okS hr rfl T.S.m T.S.F.kp T.S.b .nil pass0 (pa_cons (pv 0) (pa_cons (pv 1) (pa_cons (pv 3) pa_nil))))) pe_int (nomark _))
      (pe_one (pe_cmpR op_le (pe_op op_mulV (pe_call okS hr rfl T.S.m T.S.F.kp T.S.b .nil pass0 (pa_cons (pv 2) (pa_cons (pv 3) (pa_cons (pv 0) pa_nil)))) (pe_call okS hr rfl T.S.m T.S.F.kp T.S.b .nil pass0 (pa_cons (pv 2) (pa_cons (pv 3) (pa_cons (pv 1) pa_nil))))) pe_int (nomark _)))))), ?_⟩
  unfold hitB at k
  have tA : Tw H (.ref a) A.1 A.2 := ⟨a, rfl, ha⟩
  have tB : Tw H (.ref b) B.1 B.2 := ⟨b, rfl, hb⟩
  have tC' : Tw H (.ref c) C.1 C.2 := ⟨c, rfl, hc⟩
  have tE : Tw H (.ref d) E.1 E.2 := ⟨d, rfl, hd⟩
  refine ⟨_, rfl, a, _, 0, .int A.1, rfl, rfl, SqT.of ha, atI_nat (j := 0) rfl, _, rfl, b, _, 0, .int B.1, rfl, rfl, SqT.of hb, atI_nat (j := 0) rfl, _, rfl, c, _, 0, .int C.1, rfl, rfl, SqT.of hc, atI_nat (j := 0) rfl, _, rfl, d, _, 0, .int E.1, rfl, rfl, SqT.of hd, atI_nat (j := 0) rfl, _, _, _, _, rfl, _, rfl, ?_⟩
  cases hx : offB A.1 B.1 C.1 E.1 with
  | true =>
    rw [hx] at k
    exact iteT (iteT k)
  | false =>
    rw [hx] at k
    refine iteF ⟨_, rfl, a, _, 1, .int A.2, rfl, rfl, SqT.of ha, atI_nat (j := 1) rfl, _, rfl, b, _, 1, .int B.2, rfl, rfl, SqT.of hb, atI_nat (j := 1) rfl, _, rfl, c, _, 1, .int C.2, rfl, rfl, SqT.of hc, atI_nat (j := 1) rfl, _, rfl, d, _, 1, .int E.2, rfl, rfl, SqT.of hd, atI_nat (j := 1) rfl, _, _, _, _, rfl, _, rfl, ?_⟩
    cases hy : offB A.2 B.2 C.2 E.2 with
    | true =>
      rw [hy] at k
      exact iteT k
    | false =>
      rw [hy] at k
      refine iteF ⟨_, rfl, _, rfl, _, rfl, _, _, _, A, B, C, rfl, tA, tB, tC', wA, wB, wC, _, rfl, _, rfl, _, rfl, _, _, _, A, B, E, rfl, tA, tB, tE, wA, wB, wE, _, _, rfl, rfl, mulV (side_bits wA wB wC) (side_bits wA wB wE) (by decide), _, _, rfl, rfl, _, rfl, ?_⟩
      cases hz : decide (sideI A B C * sideI A B E ≤ 0) with
      | false =>
        rw [hz] at k
        exact iteF k
      | true =>
        rw [hz] at k
        exact iteT ⟨_, rfl, _, rfl, _, rfl, _, _, _, C, E, A, rfl, tC', tE, tA, wC, wE, wA, _, rfl, _, rfl, _, rfl, _, _, _, C, E, B, rfl, tC', tE, tB, wC, wE, wB, _, _, rfl, rfl, mulV (side_bits wC wE wA) (side_bits wC wE wB) (by decide), _, _, rfl, rfl, k⟩
/-! ### after -/
def spAfter (K : PySem.W.Frag) : Sp := fun vs H Q _ => ∃ (l : Addr) (xs : List V) (i : Nat) (v : V), vs = [.ref l, .int i] ∧ SqL K H l xs ∧ 0 < xs.length ∧ xs[(i + 1) % xs.length]? = some v ∧ Q v H
theorem scAfter : FnScope ["row", "index"] ["row", "index"] (defScope S_after) := ⟨rfl, rfl, rfl, by decide +kernel, rfl, by decide +kernel, by decide +kernel⟩
theorem ok_after {f : Addr} {fd : FuncData} (F : Fn1 K mg "after" S_after ["row", "index"] f fd) (ml : mg "len" = none) : FnOk P w K mg base CX0 1 f fd ["row", "index"] (spAfter K) := by
  refine F.F.ok scAfter (fun vs H Q E h => ?_) (fun cdv A outer s H vs Q E hr h => ?_)
  · obtain ⟨l, xs, i, v, rfl, _⟩ := h
    rfl
  obtain ⟨l, xs, i, v, rfl, hs, h0, hv, k⟩ := h
  refine ⟨_, pss_one (ps_ret (pe_ix ix_list (pv 0) (pe_op op_mod (pe_op op_add (pv 1) pe_int) (pe_callB call_len_seq rfl ml PySem.boot_len (pa_cons (pv 0) pa_nil))) (fun _ _ => rfl))), ?_⟩
  refine ⟨_, rfl, _, rfl, _, _, rfl, rfl, _, rfl, l, xs, rfl, .inl hs, _, _, rfl, rfl, by show (0 : Int) < xs.length; omega, l, xs, _, v, rfl, rfl, hs, atI_nat (j := (i + 1) % xs.length) hv, k⟩
end
end SDP
set_option Elab.async false
set_option linter.all false
set_option maxRecDepth 100000
set_option maxHeartbeats 4000000
set_option exponentiation.threshold 100000
/-! # pieces.py: rows -/
namespace SDP
open PySem PySem.Spec PyProof.Rows L2 SDX SD TL SR
open SeamNum (Bytes fits FINE Point fitsP)

theorem wAt_get {W : WRow} {i : Nat} (h : i < W.length) : W[i]? = some (wAt W i) := by
  unfold wAt
  rw [Nat.mod_eq_of_lt h, List.getD_eq_getElem?_getD, List.getElem?_eq_getElem h]
  rfl
theorem wAt_mod {W : WRow} (i : Nat) (h : 0 < W.length) : W[i % W.length]? = some (wAt W i) := by
  have hm := Nat.mod_lt i h
  unfold wAt
  rw [List.getD_eq_getElem?_getD, List.getElem?_eq_getElem hm]
  rfl
theorem wAt_mem {W : WRow} (i : Nat) (h : 0 < W.length) : wAt W i ∈ W := List.mem_of_getElem? (wAt_mod i h)
section
variable {P : Program} {w : World} {K : PySem.W.Frag} {mg : Str → Option Value} {base : Heap}
structure KeepT (K : PySem.W.Frag) (mg : Str → Option Value) (fS fA fH fK : Addr) (dS dA dH dK : FuncData) : Prop where
  T : HitT K mg fS fA fH dS dA dH
  K : Fn1 K mg "edges_keep_apart" S_edges_keep_apart ["corners"] fK dK
  len : mg "len" = none
  range : mg "range" = none
def spKeep : Sp := fun vs H Q _ => ∃ (l : Addr) (W : WRow), vs = [.ref l] ∧ WL H l W ∧ (∀ P ∈ W, WB P) ∧ 3 ≤ W.length ∧ W.length ≤ 16 ∧ (Keeps W → Q (.bl true) H) ∧ (¬ Keeps W → Q (.bl false) H)
theorem scKeep : FnScope ["corners", "first", "second", "following"] ["corners"] (defScope S_edges_keep_apart) := ⟨rfl, rfl, rfl, by decide +kernel, rfl, by decide +kernel, by decide +kernel⟩
theorem dec_nat (a b : Nat) : decide (V.int (a : Int) = V.int (b : Int)) = decide (a = b) := by
  by_cases z : a = b
  · rw [z]
    simp
  · rw [decide_eq_false z]
    exact decide_eq_false fun y => z (by injection y with y; omega)
theorem ok_keep {fS fA fH fK : Addr} {dS dA dH dK : FuncData} (T : KeepT K mg fS fA fH fK dS dA dH dK) : FnOk P w K mg base CX0 3 fK dK ["corners"] spKeep := by
  refine T.K.F.ok scKeep (fun vs H Q E h => ?_) (fun cdv A outer s H vs Q E hr h => ?_)
  · obtain ⟨l, W, rfl, _⟩ := h
    rfl
  obtain ⟨l, W, rfl, ⟨vs, hl, hp⟩, hw, h3, h16, k1, k2⟩ := h
  have okH := ok_hit (P := P) (w := w) (base := base) T.T
  refine ⟨_, pss_cons (ps_for PassesOwn.never rfl (pi_range1 rfl T.range (pa_cons (pe_callB call_len_seq rfl T.len PySem.boot_len (pa_cons (pv 0) pa_nil)) pa_nil)) (pg_name (i := 1) scKeep.nd rfl (Or.inl rfl))
      (pss_one (ps_for PassesOwn.never rfl (pi_range2 rfl T.range (pa_cons (pe_op op_add (pv 1) pe_int) (pa_cons (pe_callB call_len_seq rfl T.len PySem.boot_len (pa_cons (pv 0) pa_nil)) pa_nil))) (pg_name (i := 2) scKeep.nd rfl (Or.inl rfl))
        (pss_cons (ps_set (i := 3) scKeep.nd rfl (Or.inl rfl) (pe_op op_mod (pe_op op_add (pv 2) pe_int) (pe_callB call_len_seq rfl T.len PySem.boot_len (pa_cons (pv 0) pa_nil))))
        (pss_one (ps_if (PW.pt (pw_and (pt_cmpR op_ne (pv 3) (pv 1) (nomark _)) (pw_and1 (pt_val (pe_call okH hr rfl T.T.H.m T.T.H.F.kp T.T.H.b .nil pass0
            (pa_cons (pe_ix ix_list (pv 0) (pv 1) (fun _ _ => rfl)) (pa_cons (pe_ix ix_list (pv 0) (pe_op op_add (pv 1) pe_int) (fun _ _ => rfl)) (pa_cons (pe_ix ix_list (pv 0) (pv 2) (fun _ _ => rfl)) (pa_cons (pe_ix ix_list (pv 0) (pv 3) (fun _ _ => rfl)) pa_nil)))))))))
          (pss_one (ps_ret pe_bl)) pss_nil))))))
    (pss_one (ps_ret pe_bl)), ?_⟩
  have elen : vs.length = W.length := Paired.length hp
  have sq : SqL K H l vs := SqL.of hl
  have n0 : 0 < W.length := by omega
  have at_ : ∀ i, ∃ v, vs[i % W.length]? = some v ∧ Tw H v (wAt W i).1 (wAt W i).2 := fun i => by
    obtain ⟨v, e, t⟩ := paired_at hp (i % W.length) _ (wAt_mod i n0)
    exact ⟨v, e, t⟩
  have at' : ∀ i, i < W.length → ∃ v, vs[i]? = some v ∧ Tw H v (wAt W i).1 (wAt W i).2 := fun i hi => by
    have q := at_ i
    rwa [Nat.mod_eq_of_lt hi] at q
  have wb : ∀ i, WB (wAt W i) := fun i => hw _ (wAt_mem i n0)
  refine ⟨_, rfl, l, vs, rfl, .inl sq, _, rfl, ?_⟩
  rw [elen]
  refine ⟨by omega, by omega, ?_⟩
  refine for_range (lo := 0) (n := (W.length : Int).toNat) (fun i σ H' => H = H' ∧ (∃ o1 o2 o3, σ = [some (.ref l), o1, o2, o3]) ∧ ∀ i', i' < i → ∀ j, j < W.length → i' + 2 ≤ j → keepsAt W i' j = true) ⟨rfl, ⟨none, none, none, rfl⟩, fun i' hi' => absurd hi' (Nat.not_lt_zero _)⟩ (fun i σ H' hi ⟨e, ⟨o1, o2, o3, eσ⟩, inv⟩ => ?_) (fun σ H' ⟨e, ⟨o1, o2, o3, eσ⟩, inv⟩ => ?_)
  · subst e
    subst eσ
    have hi' : i < W.length := by omega
    refine ⟨_, rfl, _, _, rfl, rfl, _, rfl, l, vs, rfl, .inl sq, _, _, rfl, ?_⟩
    rw [elen]
    refine ⟨⟨by omega, by omega, by omega, by omega⟩, ?_⟩
    have en : ((W.length : Int) - (0 + (i : Int) + 2)).toNat = W.length - (i + 2) := by omega
    refine for_range (lo := 0 + (i : Int) + 2) (n := ((W.length : Int) - (0 + (i : Int) + 2)).toNat) (fun t σ H' => H = H' ∧ (∃ o2 o3, σ = [some (.ref l), some (.int (i : Int)), o2, o3]) ∧ ∀ j, j < i + 2 + t → i + 2 ≤ j → keepsAt W i j = true) ⟨rfl, ⟨o2, o3, by simp⟩, fun j h1 h2 => by omega⟩ (fun t σ H' ht ⟨e, ⟨o2, o3, eσ⟩, inv2⟩ => ?_) (fun σ H' ⟨e, ⟨o2, o3, eσ⟩, inv2⟩ => ?_)
    · subst e
      subst eσ
      rw [en] at ht
      obtain ⟨j, ej⟩ : ∃ j, j = i + 2 + t := ⟨_, rfl⟩
      have hj : j < W.length := by omega
      have ejj : (0 + (i : Int) + 2 + (t : Int)) = (j : Int) := by omega
      show gName 2 (.int (0 + (i : Int) + 2 + (t : Int))) _ _ _
      rw [ejj]
      refine ⟨_, rfl, _, _, rfl, rfl, _, rfl, l, vs, rfl, .inl sq, _, _, rfl, rfl, ?_⟩
      rw [elen]
      refine ⟨by omega, ?_⟩
      have em : ((j : Int) + 1) % (W.length : Int) = (((j + 1) % W.length : Nat) : Int) := by push_cast; rfl
      show gName 3 (.int (((j : Int) + 1) % (W.length : Int))) _ _ _
      rw [em]
      refine ⟨_, rfl, _, rfl, rfl, _, rfl, ?_⟩
      rw [dec_nat]
      have more : keepsAt W i j = true → ∀ j', j' < i + 2 + (t + 1) → i + 2 ≤ j' → keepsAt W i j' = true := fun z j' h1 h2 => by
        by_cases e : j' = j
        · rw [e]; exact z
        · exact inv2 j' (by omega) h2
      by_cases hne : (j + 1) % W.length = i
      · rw [decide_eq_true hne]
        refine iteF (iteF ⟨rfl, ⟨_, _, rfl⟩, more ?_⟩)
        unfold keepsAt
        rw [hne]
        simp
      · rw [decide_eq_false hne]
        obtain ⟨v1, g1, t1⟩ := at' i hi'
        obtain ⟨v2, g2, t2⟩ := at' (i + 1) (by omega)
        obtain ⟨v3, g3, t3⟩ := at' j hj
        obtain ⟨v4, g4, t4⟩ := at_ (j + 1)
        refine iteT ⟨_, rfl, _, rfl, l, vs, _, v1, rfl, rfl, sq, atI_nat (j := i) g1, _, rfl, _, rfl, _, _, rfl, rfl, l, vs, _, v2, rfl, rfl, sq, atI_nat (j := i + 1) g2, _, rfl, _, rfl, l, vs, _, v3, rfl, rfl, sq, atI_nat (j := j) g3, _, rfl, _, rfl, l, vs, _, v4, rfl, rfl, sq, atI_nat (j := (j + 1) % W.length) g4, ?_⟩
        refine ⟨_, _, _, _, wAt W i, wAt W (i + 1), wAt W j, wAt W (j + 1), rfl, t1, t2, t3, t4, wb _, wb _, wb _, wb _, _, rfl, ?_⟩
        cases hb : hitB (wAt W i) (wAt W (i + 1)) (wAt W j) (wAt W (j + 1)) with
        | true =>
          refine iteT (k2 fun z => ?_)
          have q := z i hi' j hj (by omega)
          unfold keepsAt at q
          rw [hb] at q
          simp at q
          exact hne q
        | false =>
          refine iteF ⟨rfl, ⟨_, _, rfl⟩, more ?_⟩
          unfold keepsAt
          rw [hb]
          simp
    · subst e
      subst eσ
      refine ⟨rfl, ⟨_, _, _, rfl⟩, fun i' h1 j h2 h3' => ?_⟩
      by_cases e : i' = i
      · subst e
        exact inv2 j (by omega) h3'
      · exact inv i' (by omega) j h2 h3'
  · subst e
    exact k1 fun i hi j hj hij => inv i (by omega) j hj hij
/-! ### twice_area -/
theorem areaTo_bits {W : WRow} (hw : ∀ P ∈ W, WB P) (h0 : 0 < W.length) : ∀ n, n ≤ 16 → (areaTo W n).natAbs < 2 ^ (4602 + n)
  | 0, _ => by unfold areaTo; simp
  | n + 1, hn => by
    have ih := areaTo_bits hw h0 n (by omega)
    have a := hw _ (wAt_mem n h0)
    have b := hw _ (wAt_mem (n + 1) h0)
    have c : (crossI (wAt W n) (wAt W (n + 1))).natAbs < 2 ^ 4601 := sub_bits (mulI_bits a.1 b.2) (mulI_bits a.2 b.1)
    have c' : (crossI (wAt W n) (wAt W (n + 1))).natAbs < 2 ^ (4602 + n) := Nat.lt_of_lt_of_le c (Nat.pow_le_pow_right (by decide) (by omega))
    exact add_bits ih c'
def spArea : Sp := fun vs H Q _ => ∃ (l : Addr) (W : WRow), vs = [.ref l] ∧ WL H l W ∧ (∀ P ∈ W, WB P) ∧ 0 < W.length ∧ W.length ≤ 16 ∧ ∀ H', Same H H' → Q (.int (areaTo W W.length)) H'
theorem scArea : FnScope ["corners", "area", "index", "corner", "following"] ["corners"] (defScope S_twice_area) := ⟨rfl, rfl, rfl, by decide +kernel, rfl, by decide +kernel, by decide +kernel⟩
theorem ok_area {f fA : Addr} {fd dA : FuncData} (F : Fn1 K mg "twice_area" S_twice_area ["corners"] f fd) (FA : Fn1 K mg "after" S_after ["row", "index"] fA dA) (ml : mg "len" = none) (me : mg "enumerate" = none) : FnOk P w K mg base CX0 2 f fd ["corners"] spArea := by
  refine F.F.ok scArea (fun vs H Q E h => ?_) (fun cdv A outer s H vs Q E hr h => ?_)
  · obtain ⟨l, W, rfl, _⟩ := h
    rfl
  obtain ⟨l, W, rfl, ⟨vs, hl, hp⟩, hw, n0, h16, k⟩ := h
  refine ⟨_, pss_cons (ps_set (i := 1) scArea.nd rfl (Or.inl rfl) pe_int)
    (pss_cons (ps_for PassesOwn.never rfl (pi_enum rfl me (pa_cons (pv 0) pa_nil)) (pg_tup rfl (pgs_cons (pg_name (i := 2) scArea.nd rfl (Or.inl rfl)) (pgs_cons (pg_name (i := 3) scArea.nd rfl (Or.inl rfl)) pgs_nil)))
      (pss_cons (ps_set (i := 4) scArea.nd rfl (Or.inl rfl) (pe_call (ok_after FA ml) hr rfl FA.m FA.F.kp FA.b .nil pass0 (pa_cons (pv 0) (pa_cons (pv 2) pa_nil))))
      (pss_one (ps_aug (i := 1) scArea.nd rfl (Or.inl rfl) (pe_op op_sub (pe_op op_mulV (pe_ix ix_tup (pv 3) pe_int (fun _ _ => rfl)) (pe_ix ix_tup (pv 4) pe_int (fun _ _ => rfl))) (pe_op op_mulV (pe_ix ix_tup (pv 3) pe_int (fun _ _ => rfl)) (pe_ix ix_tup (pv 4) pe_int (fun _ _ => rfl)))) ip_add))))
    (pss_one (ps_ret (pv 1)))), ?_⟩
  have elen : vs.length = W.length := Paired.length hp
  refine ⟨_, rfl, l, vs, rfl, SqL.of hl, ?_⟩
  refine for_it walk_enum (fun i σ H' => Same H H' ∧ ∃ o2 o3 o4, σ = [some (.ref l), some (.int (areaTo W i)), o2, o3, o4]) ⟨Same.refl _, none, none, none, rfl⟩ (fun i σ H' _ ⟨s1, _⟩ => SqL.of (s1 _ _ hl)) (fun i x0 σ H1 H2 hi ⟨s1, o2, o3, o4, es⟩ hy => ?_) (fun σ H' ⟨s1, o2, o3, o4, es⟩ => ?_)
  · subst es
    obtain ⟨Tp, x1, y1, rfl, hTp, rfl, e1, e2⟩ := hy
    injection e1 with e1
    subst e1
    have hiW : i < W.length := by omega
    obtain ⟨v1, g1, t1⟩ := paired_at hp i _ (wAt_get hiW)
    have e2 : vs[i]? = some y1 := e2
    rw [g1] at e2
    obtain rfl : v1 = y1 := Option.some.inj e2
    obtain ⟨v2, g2, t2⟩ := paired_at hp ((i + 1) % W.length) _ (wAt_mod (i + 1) n0)
    rw [← elen] at g2
    have s2 : Same H (upd H1 Tp (.tup [.int (i : Nat), v1])) := s1.trans (same_new hTp _)
    refine ⟨Tp, _, rfl, SqT.of upd_same, rfl, _, _, rfl, _, _, rfl, rfl, ?_⟩
    generalize upd H1 Tp (.tup [.int (i : Nat), v1]) = H2 at s2 ⊢
    refine ⟨_, rfl, _, rfl, l, vs, i, v2, rfl, SqL.of (s2 _ _ hl), by omega, g2, ?_⟩
    obtain ⟨a1, rfl, q1⟩ := t1.same s2
    obtain ⟨a2, rfl, q2⟩ := t2.same s2
    have wa := hw _ (wAt_mem i n0)
    have wb := hw _ (wAt_mem (i + 1) n0)
    refine ⟨_, rfl, _, rfl, a1, _, 0, .int (wAt W i).1, rfl, rfl, SqT.of q1, atI_nat (j := 0) rfl, _, rfl, a2, _, 1, .int (wAt W (i + 1)).2, rfl, rfl, SqT.of q2, atI_nat (j := 1) rfl, _, _, rfl, rfl, mulV wa.1 wb.2 (by decide), ?_⟩
    refine ⟨_, rfl, a1, _, 1, .int (wAt W i).2, rfl, rfl, SqT.of q1, atI_nat (j := 1) rfl, _, rfl, a2, _, 0, .int (wAt W (i + 1)).1, rfl, rfl, SqT.of q2, atI_nat (j := 0) rfl, _, _, rfl, rfl, mulV wa.2 wb.1 (by decide), ?_⟩
    exact ⟨_, _, rfl, rfl, _, _, rfl, rfl, s2, _, _, _, rfl⟩
  · subst es
    rw [elen]
    exact ⟨_, rfl, k _ s1⟩
/-! ### are_corners, exact_area -/
structure RowT (K : PySem.W.Frag) (mg : Str → Option Value) (fS fA fH fK fB fW fT fF fC : Addr) (dS dA dH dK dB dW dT dF dC : FuncData) : Prop where
  T : KeepT K mg fS fA fH fK dS dA dH dK
  B : Fn1 K mg "common_below" S_common_below ["corners"] fB dB
  W : Fn1 K mg "whole_corners" S_whole_corners ["corners", "below"] fW dW
  A : Fn1 K mg "twice_area" S_twice_area ["corners"] fT dT
  F : Fn1 K mg "after" S_after ["row", "index"] fF dF
  C : Fn1 K mg "are_corners" S_are_corners ["corners"] fC dC
  enum : mg "enumerate" = none
  L : ∃ f d, Fn1 K mg "all_whole" S_all_whole ["corners"] f d
variable {fS fA fH fK fB fW fT fF fC : Addr} {dS dA dH dK dB dW dT dF dC : FuncData}
theorem wholeP_bits {D : Int} {p : Point} (hf : fitsP p = true) (hD : D.natAbs < 2 ^ 2200) (h0 : 0 < D) : WB (wholeP D p) := by
  obtain ⟨f1, f2⟩ := fitsP_two hf
  have a := whole_bits f1 hD h0
  have b := whole_bits f2 hD h0
  exact ⟨Nat.lt_of_lt_of_le a (Nat.pow_le_pow_right (by decide) (by decide)), Nat.lt_of_lt_of_le b (Nat.pow_le_pow_right (by decide) (by decide))⟩
theorem below_small {r : SeamPoly.Row} (hf : ∀ p ∈ r, fitsP p = true) (h : r.length ≤ 17) : (belowTo r r.length).natAbs < 2 ^ 2200 :=
  Nat.lt_of_lt_of_le (belowTo_bits hf _ (Nat.le_refl _)) (Nat.pow_le_pow_right (by decide) (by omega))
theorem bits_more {D : Int} {b c : Nat} (h : D.natAbs < 2 ^ b) (k : b ≤ c) : D.natAbs < 2 ^ c := Nat.lt_of_lt_of_le h (Nat.pow_le_pow_right (by decide) k)
/-! ### all_whole -/
def spAllW : Sp := fun vs H Q _ => ∃ (l : Addr) (r : SeamPoly.Row), vs = [.ref l] ∧ RowL H l r ∧ (∀ p ∈ r, fitsP p = true) ∧ r.length ≤ 17 ∧ ∀ H' p D, D = belowTo r r.length → Same H H' → H p = none → WL H' p (r.map (wholeP D)) → Q (.ref p) H'
theorem scAllW : FnScope ["corners"] ["corners"] (defScope S_all_whole) := ⟨rfl, rfl, rfl, by decide +kernel, rfl, by decide +kernel, by decide +kernel⟩
theorem ok_allW {f fB fW : Addr} {fd dB dW : FuncData} (F : Fn1 K mg "all_whole" S_all_whole ["corners"] f fd) (FB : Fn1 K mg "common_below" S_common_below ["corners"] fB dB) (FW : Fn1 K mg "whole_corners" S_whole_corners ["corners", "below"] fW dW) : FnOk P w K mg base CX0 2 f fd ["corners"] spAllW := by
  refine F.F.ok scAllW (fun vs H Q E h => ?_) (fun cdv A outer s H vs Q E hr h => ?_)
  · obtain ⟨l, r, rfl, _⟩ := h
    rfl
  obtain ⟨l, r, rfl, hR, hf, h17, k⟩ := h
  refine ⟨_, pss_one (ps_ret (pe_call (ok_wholeC FW) hr rfl FW.m FW.F.kp FW.b .nil pass0 (pa_cons (pv 0) (pa_cons (pe_call (ok_below FB) hr rfl FB.m FB.F.kp FB.b .nil pass0 (pa_cons (pv 0) pa_nil)) pa_nil)))), ?_⟩
  obtain ⟨D, eD⟩ : ∃ D, D = belowTo r r.length := ⟨_, rfl⟩
  have sc := whole_sc eD
  have db : D.natAbs < 2 ^ 2200 := by rw [eD]; exact below_small hf h17
  refine ⟨_, rfl, _, rfl, l, r, rfl, hR, hf, by omega, ?_⟩
  rw [← eD]
  exact ⟨l, r, D, rfl, hR, hf, by omega, sc.pos, bits_more db (by decide), fun H1 p s1 hp hW => k H1 p D eD s1 hp hW⟩
def spCorners : Sp := fun vs H Q _ => ∃ (l : Addr) (r : SeamPoly.Row), vs = [.ref l] ∧ RowL H l r ∧ (∀ p ∈ r, fitsP p = true) ∧ 3 ≤ r.length ∧ r.length ≤ 16 ∧ ∀ H', Same H H' → Q (.bl (SeamPoly.simple r && decide (0 < SeamPoly.area r))) H'
theorem scCorners : FnScope ["corners", "whole"] ["corners"] (defScope S_are_corners) := ⟨rfl, rfl, rfl, by decide +kernel, rfl, by decide +kernel, by decide +kernel⟩
theorem ok_corners (T : RowT K mg fS fA fH fK fB fW fT fF fC dS dA dH dK dB dW dT dF dC) : FnOk P w K mg base CX0 4 fC dC ["corners"] spCorners := by
  refine T.C.F.ok scCorners (fun vs H Q E h => ?_) (fun cdv A outer s H vs Q E hr h => ?_)
  · obtain ⟨l, r, rfl, _⟩ := h
    rfl
  obtain ⟨l, r, rfl, hR, hf, h3, h16, k⟩ := h
  obtain ⟨fL, dL, FL⟩ := T.L
  have hr2 : Room 2 _ := hr.mono (by decide)
  refine ⟨_, pss_cons (ps_set (i := 1) scCorners.nd rfl (Or.inl rfl) (pe_call (ok_allW FL T.B T.W) hr2 rfl FL.m FL.F.kp FL.b .nil pass0 (pa_cons (pv 0) pa_nil)))
    (pss_one (ps_ret (pe_and (pe_call (ok_keep T.T) hr rfl T.T.K.m T.T.K.F.kp T.T.K.b .nil pass0 (pa_cons (pv 1) pa_nil)) (pe_one (pe_cmpR op_gt (pe_call (ok_area T.A T.F T.T.len T.enum) hr2 rfl T.A.m T.A.F.kp T.A.b .nil pass0 (pa_cons (pv 1) pa_nil)) pe_int (nomark _)))))), ?_⟩
  refine ⟨_, rfl, l, r, rfl, hR, hf, by omega, fun H1 p D eD s1 hp hW => ?_⟩
  have sc := whole_sc eD
  have d0 := sc.pos
  have db : D.natAbs < 2 ^ 2200 := by rw [eD]; exact below_small hf (by omega)
  have found := row_found sc h3
  have wl : (r.map (wholeP D)).length = r.length := List.length_map _
  have wb : ∀ P ∈ r.map (wholeP D), WB P := fun P hP => by
    obtain ⟨p, hp, rfl⟩ := List.mem_map.mp hP
    exact wholeP_bits (hf p hp) db d0
  generalize r.map (wholeP D) = W at found wl wb hW
  have kk : ∀ (b : Bool) H', Same H H' → (b = true ↔ (SeamPoly.simple r = true ∧ 0 < SeamPoly.area r)) → Q (.bl b) H' := fun b H' s2 hb => by
    have e : (SeamPoly.simple r && decide (0 < SeamPoly.area r)) = b := by
      rw [Bool.eq_iff_iff, hb, Bool.and_eq_true, decide_eq_true_eq]
    rw [← e]
    exact k H' s2
  refine ⟨_, rfl, p, W, rfl, hW, wb, by omega, by omega, fun z => ?_, fun z => ?_⟩
  · refine ⟨_, rfl, iteT ⟨_, rfl, p, W, rfl, hW, wb, by omega, by omega, fun H2 s2 => ⟨_, _, rfl, rfl, ?_⟩⟩⟩
    refine kk _ _ (s1.trans s2) ?_
    rw [decide_eq_true_eq, ← found]
    exact ⟨fun y => ⟨z, y⟩, fun y => y.2⟩
  · refine ⟨_, rfl, iteF (kk false _ s1 ?_)⟩
    rw [← found]
    exact ⟨fun y => (by cases y), fun y => absurd y.1 z⟩
def spExact : Sp := fun vs H Q _ => ∃ (l : Addr) (r : SeamPoly.Row), vs = [.ref l] ∧ RowL H l r ∧ (∀ p ∈ r, fitsP p = true) ∧ 3 ≤ r.length ∧ r.length ≤ 16 ∧
  (∀ H' p, Same H H' → H p = none → fits (SeamPoly.area r) = true → H' p = some (two (SeamPoly.area r).num (SeamPoly.area r).den) → Q (.ref p) H') ∧ (∀ H', Same H H' → fits (SeamPoly.area r) = false → Q .non H')
/-! ### edge_length -/
def lenAt (r : SeamPoly.Row) (e : Nat) : Rat := SeamNum.square (SeamNum.less (SeamPoly.at_ r (e + 1)) (SeamPoly.at_ r e))
structure LenT (K : PySem.W.Frag) (mg : Str → Option Value) (fP fM fX fF fE : Addr) (dP dM dX dF dE : FuncData) : Prop where
  P : Fn1 K mg "plus" S_plus ["a", "b"] fP dP
  M : Fn1 K mg "minus" S_minus ["a", "b"] fM dM
  X : Fn1 K mg "times" S_times ["a", "b"] fX dX
  F : Fn1 K mg "after" S_after ["row", "index"] fF dF
  E : Fn1 K mg "edge_length" S_edge_length ["corners", "edge"] fE dE
  len : mg "len" = none
def spLen2 : Sp := fun vs H Q _ => ∃ (l : Addr) (r : SeamPoly.Row) (e : Nat), vs = [.ref l, .int e] ∧ RowL H l r ∧ (∀ p ∈ r, fitsP p = true) ∧ e < r.length ∧ r.length ≤ 16 ∧
  ∀ H' p n d, Same H H' → H p = none → H' p = some (two n d) → Rep (lenAt r e) n d → n.natAbs < 2 ^ 600 → d.natAbs < 2 ^ 600 → Q (.ref p) H'
theorem scLen2 : FnScope ["corners", "edge", "a", "b", "across", "up"] ["corners", "edge"] (defScope S_edge_length) := ⟨rfl, rfl, rfl, by decide +kernel, rfl, by decide +kernel, by decide +kernel⟩
theorem row_get {r : SeamPoly.Row} {i : Nat} (h : i < r.length) : r[i]? = some (SeamPoly.at_ r i) := by
  unfold SeamPoly.at_
  rw [Nat.mod_eq_of_lt h, List.getD_eq_getElem?_getD, List.getElem?_eq_getElem h]
  rfl
theorem row_mod {r : SeamPoly.Row} (i : Nat) (h : 0 < r.length) : r[i % r.length]? = some (SeamPoly.at_ r i) := by
  have hm := Nat.mod_lt i h
  unfold SeamPoly.at_
  rw [List.getD_eq_getElem?_getD, List.getElem?_eq_getElem hm]
  rfl
theorem ok_len2 {fP fM fX fF fE : Addr} {dP dM dX dF dE : FuncData} (T : LenT K mg fP fM fX fF fE dP dM dX dF dE) : FnOk P w K mg base CX0 2 fE dE ["corners", "edge"] spLen2 := by
  refine T.E.F.ok scLen2 (fun vs H Q E h => ?_) (fun cdv A outer s H vs Q E hr h => ?_)
  · obtain ⟨l, r, e, rfl, _⟩ := h
    rfl
  obtain ⟨l, r, e, rfl, ⟨vs, hl, hp⟩, hf, he, h16, k⟩ := h
  have okM := ok_minus (P := P) (w := w) (base := base) T.M
  have okX := ok_times (P := P) (w := w) (base := base) T.X
  have okP := ok_plus (P := P) (w := w) (base := base) T.P
  refine ⟨_, pss_cons (ps_set (i := 2) scLen2.nd rfl (Or.inl rfl) (pe_ix ix_list (pv 0) (pv 1) (fun _ _ => rfl)))
    (pss_cons (ps_set (i := 3) scLen2.nd rfl (Or.inl rfl) (pe_call (ok_after T.F T.len) hr rfl T.F.m T.F.F.kp T.F.b .nil pass0 (pa_cons (pv 0) (pa_cons (pv 1) pa_nil))))
    (pss_cons (ps_set (i := 4) scLen2.nd rfl (Or.inl rfl) (pe_call okM hr rfl T.M.m T.M.F.kp T.M.b .nil pass0 (pa_cons (pe_ix ix_tup (pv 3) pe_int (fun _ _ => rfl)) (pa_cons (pe_ix ix_tup (pv 2) pe_int (fun _ _ => rfl)) pa_nil))))
    (pss_cons (ps_set (i := 5) scLen2.nd rfl (Or.inl rfl) (pe_call okM hr rfl T.M.m T.M.F.kp T.M.b .nil pass0 (pa_cons (pe_ix ix_tup (pv 3) pe_int (fun _ _ => rfl)) (pa_cons (pe_ix ix_tup (pv 2) pe_int (fun _ _ => rfl)) pa_nil))))
    (pss_one (ps_ret (pe_call okP hr rfl T.P.m T.P.F.kp T.P.b .nil pass0 (pa_cons (pe_call okX hr rfl T.X.m T.X.F.kp T.X.b .nil pass0 (pa_cons (pv 4) (pa_cons (pv 4) pa_nil)))
      (pa_cons (pe_call okX hr rfl T.X.m T.X.F.kp T.X.b .nil pass0 (pa_cons (pv 5) (pa_cons (pv 5) pa_nil))) pa_nil)))))))), ?_⟩
  have elen : vs.length = r.length := Paired.length hp
  obtain ⟨va, ga, a, vax, vay, rfl, ha, tax, tay⟩ := paired_at hp e _ (row_get he)
  obtain ⟨vb, gb, b, vbx, vby, rfl, hb, tbx, tby⟩ := paired_at hp ((e + 1) % r.length) _ (row_mod (e + 1) (by omega))
  have fa := fitsP_two (hf _ (List.mem_of_getElem? (row_get he)))
  have fb := fitsP_two (hf _ (List.mem_of_getElem? (row_mod (e + 1) (by omega : 0 < r.length))))
  obtain ⟨pa, epa⟩ : ∃ pa, pa = SeamPoly.at_ r e := ⟨_, rfl⟩
  obtain ⟨pb, epb⟩ : ∃ pb, pb = SeamPoly.at_ r (e + 1) := ⟨_, rfl⟩
  unfold lenAt at k
  rw [← epa, ← epb] at k
  rw [← epa] at tax tay fa
  rw [← epb] at tbx tby fb
  rw [← elen] at gb
  have n1 := num_bits fa.1; have n2 := num_bits fa.2; have n3 := num_bits fb.1; have n4 := num_bits fb.2
  have d1 := den_bits fa.1; have d2 := den_bits fa.2; have d3 := den_bits fb.1; have d4 := den_bits fb.2
  refine ⟨_, rfl, _, rfl, l, vs, _, .ref a, rfl, rfl, SqL.of hl, atI_nat (j := e) ga, ?_⟩
  refine ⟨_, rfl, _, rfl, l, vs, e, .ref b, rfl, SqL.of hl, by omega, gb, ?_⟩
  refine ⟨_, rfl, b, _, 0, vbx, rfl, rfl, SqT.of hb, atI_nat (j := 0) rfl, _, rfl, a, _, 0, vax, rfl, rfl, SqT.of ha, atI_nat (j := 0) rfl, ?_⟩
  refine ⟨_, _, _, _, _, _, 63, 63, rfl, tbx, tax, n3, d3, n1, d1, by decide, fun p1 hp1 => ?_⟩
  have s1 := same_new hp1 (two (pb.1.num * pa.1.den - pa.1.num * pb.1.den) (pb.1.den * pa.1.den))
  have t1 : Tw _ (.ref p1) _ _ := Tw.of (upd_same (H := H) (a := p1) (o := two (pb.1.num * pa.1.den - pa.1.num * pb.1.den) (pb.1.den * pa.1.den)))
  generalize upd H p1 (two (pb.1.num * pa.1.den - pa.1.num * pb.1.den) (pb.1.den * pa.1.den)) = H1 at s1 t1 ⊢
  refine ⟨_, rfl, b, _, 1, vby, rfl, rfl, SqT.of (s1 _ _ hb), atI_nat (j := 1) rfl, _, rfl, a, _, 1, vay, rfl, rfl, SqT.of (s1 _ _ ha), atI_nat (j := 1) rfl, ?_⟩
  refine ⟨_, _, _, _, _, _, 63, 63, rfl, tby.same s1, tay.same s1, n4, d4, n2, d2, by decide, fun p2 hp2 => ?_⟩
  have s2 := same_new hp2 (two (pb.2.num * pa.2.den - pa.2.num * pb.2.den) (pb.2.den * pa.2.den))
  have t2 : Tw _ (.ref p2) _ _ := Tw.of (upd_same (H := H1) (a := p2) (o := two (pb.2.num * pa.2.den - pa.2.num * pb.2.den) (pb.2.den * pa.2.den)))
  generalize upd H1 p2 (two (pb.2.num * pa.2.den - pa.2.num * pb.2.den) (pb.2.den * pa.2.den)) = H2 at s2 t2 ⊢
  have R1 : Rep (pb.1 - pa.1) (pb.1.num * pa.1.den - pa.1.num * pb.1.den) (pb.1.den * pa.1.den) := (Rep.of pb.1).sub (Rep.of pa.1)
  have R2 : Rep (pb.2 - pa.2) (pb.2.num * pa.2.den - pa.2.num * pb.2.den) (pb.2.den * pa.2.den) := (Rep.of pb.2).sub (Rep.of pa.2)
  have bn1 : (pb.1.num * pa.1.den - pa.1.num * pb.1.den).natAbs < 2 ^ 127 := sub_bits (mulI_bits n3 d1) (mulI_bits n1 d3)
  have bn2 : (pb.2.num * pa.2.den - pa.2.num * pb.2.den).natAbs < 2 ^ 127 := sub_bits (mulI_bits n4 d2) (mulI_bits n2 d4)
  have bd1 : ((pb.1.den : Int) * pa.1.den).natAbs < 2 ^ 127 := Nat.lt_trans (mulI_bits d3 d1) (by decide)
  have bd2 : ((pb.2.den : Int) * pa.2.den).natAbs < 2 ^ 127 := Nat.lt_trans (mulI_bits d4 d2) (by decide)
  generalize (pb.1.num * pa.1.den - pa.1.num * pb.1.den) = x1 at t1 R1 bn1
  generalize ((pb.1.den : Int) * pa.1.den) = y1 at t1 R1 bd1
  generalize (pb.2.num * pa.2.den - pa.2.num * pb.2.den) = x2 at t2 R2 bn2
  generalize ((pb.2.den : Int) * pa.2.den) = y2 at t2 R2 bd2
  have t1' := t1.same s2
  refine ⟨_, rfl, _, rfl, _, _, _, _, _, _, 127, 127, rfl, t1', t1', bn1, bd1, bn1, bd1, by decide, fun p3 hp3 => ?_⟩
  have s3 := same_new hp3 (two (x1 * x1) (y1 * y1))
  have t3 : Tw _ (.ref p3) _ _ := Tw.of (upd_same (H := H2) (a := p3) (o := two (x1 * x1) (y1 * y1)))
  generalize upd H2 p3 (two (x1 * x1) (y1 * y1)) = H3 at s3 t3 ⊢
  have t2' := t2.same s3
  refine ⟨_, rfl, _, rfl, _, _, _, _, _, _, 127, 127, rfl, t2', t2', bn2, bd2, bn2, bd2, by decide, fun p4 hp4 => ?_⟩
  have s4 := same_new hp4 (two (x2 * x2) (y2 * y2))
  have t4 : Tw _ (.ref p4) _ _ := Tw.of (upd_same (H := H3) (a := p4) (o := two (x2 * x2) (y2 * y2)))
  generalize upd H3 p4 (two (x2 * x2) (y2 * y2)) = H4 at s4 t4 ⊢
  refine ⟨_, _, _, _, _, _, 254, 254, rfl, t3.same s4, t4, mulI_bits bn1 bn1, mulI_bits bd1 bd1, mulI_bits bn2 bn2, mulI_bits bd2 bd2, by decide, fun p5 hp5 => ?_⟩
  have sAll : Same H H4 := ((s1.trans s2).trans s3).trans s4
  refine k _ p5 _ _ (sAll.trans (same_new hp5 _)) (sAll.free hp5) upd_same ((R1.mul R1).add (R2.mul R2)) ?_ ?_
  · exact Nat.lt_of_lt_of_le (add_bits (mulI_bits (mulI_bits bn1 bn1) (mulI_bits bd2 bd2)) (mulI_bits (mulI_bits bn2 bn2) (mulI_bits bd1 bd1))) (Nat.pow_le_pow_right (by decide) (by decide))
  · exact Nat.lt_of_lt_of_le (mulI_bits (mulI_bits bd1 bd1) (mulI_bits bd2 bd2)) (Nat.pow_le_pow_right (by decide) (by decide))
end
end SDP
set_option Elab.async false
set_option linter.all false
set_option maxRecDepth 100000
set_option maxHeartbeats 4000000
set_option exponentiation.threshold 100000
/-! # pattern.py -/
namespace SDP
open PySem PySem.Spec PyProof.Rows L2 SDX SD TL SR
open SeamNum (Bytes fits FINE Point fitsP)
open SeamPattern (Edge Seam)

/-- the two classes -/
structure PAd where
  CT : Addr
  fTI : Addr
  dTI : FuncData
  CP : Addr
  fPI : Addr
  dPI : FuncData
/-- a piece's instance; its corners' list at cl -/
def PcAt (CP : Addr) (H : Hp) (v : V) (cl : Addr) (pc : SeamPattern.Piece) : Prop := ∃ a dx g, v = .ref a ∧ H a = some (.ins CP dx [("name", .str (tx pc.name)), ("grain", g), ("corners", .ref cl)]) ∧ PtAt H g pc.grain ∧ RowL H cl pc.row
def EdAt (H : Hp) (v : V) (e : Edge) : Prop := Tw H v (e.1 : Int) (e.2 : Int)
def SmAt (H : Hp) (v : V) (s : Seam) : Prop := ∃ a v1 v2, v = .ref a ∧ H a = some (.tup [v1, v2]) ∧ EdAt H v1 s.1 ∧ EdAt H v2 s.2
theorem SmAt.kp {M : List Addr} {H H' : Hp} {v : V} {s : Seam} (h : SmAt H v s) (k : Kp M H H') : SmAt H' v s := by
  obtain ⟨a, v1, v2, e, q, h1, h2⟩ := h
  exact ⟨a, v1, v2, e, k _ _ q (.inr rfl), h1.kp k, h2.kp k⟩
theorem RowL.kp {M : List Addr} {H H' : Hp} {l : Addr} {r : SeamPoly.Row} (h : RowL H l r) (k : Kp M H H') (n : l ∉ M) : RowL H' l r := by
  obtain ⟨vs, e, q⟩ := h
  exact ⟨vs, k _ _ e (.inl n), paired_map (fun _ _ z => z.kp k) q⟩
/-- the pattern's instance at r, with what it holds -/
structure PatS (CT CP : Addr) (H : Hp) (r pl sl : Addr) (vcs : List (V × Addr)) (ps : List SeamPattern.Piece) (ss : List Seam) : Prop where
  ins : ∃ dx, H r = some (.ins CT dx [("pieces", .ref pl), ("seams", .ref sl)])
  pcs : H pl = some (.lst (vcs.map Prod.fst))
  ne : pl ≠ sl
  nd : (vcs.map Prod.snd).Nodup
  np : pl ∉ vcs.map Prod.snd
  ns : sl ∉ vcs.map Prod.snd
  all : Paired (fun vc pc => PcAt CP H vc.1 vc.2 pc) vcs ps
  sms : ∃ svs, H sl = some (.lst svs) ∧ Paired (SmAt H) svs ss
/-- what is changed when something is added -/
abbrev own (pl sl : Addr) (vcs : List (V × Addr)) : List Addr := pl :: sl :: vcs.map Prod.snd
theorem PcAt.kp {CP : Addr} {M : List Addr} {H H' : Hp} {v : V} {cl : Addr} {pc : SeamPattern.Piece} (h : PcAt CP H v cl pc) (k : Kp M H H') (n : cl ∉ M) (hi : ∀ a ∈ M, ∀ C dx fs, H a ≠ some (.ins C dx fs)) : PcAt CP H' v cl pc := by
  obtain ⟨a, dx, g, e, q, h1, h2⟩ := h
  exact ⟨a, dx, g, e, k _ _ q (.inl fun z => hi a z _ _ _ q), h1.kp k, h2.kp k n⟩
theorem PcAt.same {CP : Addr} {H H' : Hp} {v : V} {cl : Addr} {pc : SeamPattern.Piece} (h : PcAt CP H v cl pc) (s : Same H H') : PcAt CP H' v cl pc := h.kp (Kp.same (M := []) s) (by simp) (by simp)
theorem PatS.same {CT CP : Addr} {H H' : Hp} {r pl sl : Addr} {vcs : List (V × Addr)} {ps : List SeamPattern.Piece} {ss : List Seam} (h : PatS CT CP H r pl sl vcs ps ss) (s : Same H H') : PatS CT CP H' r pl sl vcs ps ss := by
  obtain ⟨⟨dx, e⟩, h2, h3, h4, h5, h6, h7, svs, h8, h9⟩ := h
  exact ⟨⟨dx, s _ _ e⟩, s _ _ h2, h3, h4, h5, h6, paired_map (fun _ _ z => z.same s) h7, svs, s _ _ h8, paired_map (fun _ _ z => z.kp (Kp.same (M := []) s)) h9⟩
structure Fine (ps : List SeamPattern.Piece) : Prop where
  few : ps.length ≤ 8
  row : ∀ p ∈ ps, p.row.length ≤ 16
  fit : ∀ p ∈ ps, ∀ c ∈ p.row, fitsP c = true
structure PatC (K : PySem.W.Frag) (mg : Str → Option Value) (D : PAd) : Prop where
  gT : mg "Pattern" = some (.ref D.CT)
  clT : L2.Cls K D.CT
  nTp : L2.NoAttr K D.CT "pieces"
  nTs : L2.NoAttr K D.CT "seams"
  madeT : L2.Mk K D.CT D.fTI
  IT : Mt1 K D.CT "__init__" "Pattern.__init__" S_Pattern_I ["self"] D.fTI D.dTI
  gP : mg "Piece" = some (.ref D.CP)
  clP : L2.Cls K D.CP
  nPn : L2.NoAttr K D.CP "name"
  nPg : L2.NoAttr K D.CP "grain"
  nPc : L2.NoAttr K D.CP "corners"
  madeP : L2.Mk K D.CP D.fPI
  IP : Mt1 K D.CP "__init__" "Piece.__init__" S_Piece_I ["self", "name", "grain", "corners"] D.fPI D.dPI
section
variable {P : Program} {w : World} {K : PySem.W.Frag} {mg : Str → Option Value} {base : Heap} {D : PAd}
theorem scTI : FnScope ["self"] ["self"] (defScope S_Pattern_I) := ⟨rfl, rfl, rfl, by decide +kernel, rfl, by decide +kernel, by decide +kernel⟩
def spTI (D : PAd) : Sp := fun vs H Q _ => ∃ r dx, vs = [.ref r] ∧ H r = some (.ins D.CT dx []) ∧ ∀ H' pl sl, (∀ b o, b ≠ r → H b = some o → H' b = some o) → H pl = none → H sl = none → PatS D.CT D.CP H' r pl sl [] [] [] → Q .non H'
theorem ok_TI (T : PatC K mg D) : FnOk P w K mg base CX0 1 D.fTI D.dTI ["self"] (spTI D) := by
  refine T.IT.F.ok scTI (fun vs H Q E h => ?_) (fun cdv A outer s H vs Q E hr h => ?_)
  · obtain ⟨r, dx, rfl, _⟩ := h
    rfl
  obtain ⟨r, dx, rfl, e, k⟩ := h
  refine ⟨_, pss_cons (ps_fld (pv 0) (pe_lst pa_nil) rfl) (pss_one (ps_fld (pv 0) (pe_lst pa_nil) rfl)), ?_⟩
  refine ⟨by show 0 ≤ sizeLine; decide, fun pl hpl => ?_⟩
  have n1 : r ≠ pl := fun z => by rw [← z, e] at hpl; cases hpl
  refine ⟨_, rfl, r, D.CT, dx, [], rfl, by rw [upd_ne n1]; exact e, T.clT, T.nTp, (by show 0 < 1000; decide), ?_⟩
  refine ⟨by show 0 ≤ sizeLine; decide, fun sl hsl => ?_⟩
  have n2 : r ≠ sl := fun z => by rw [← z, upd_same] at hsl; cases hsl
  have n3 : pl ≠ sl := fun z => by rw [← z, upd_ne (Ne.symm n1), upd_same] at hsl; cases hsl
  have hsl0 : H sl = none := by rw [upd_ne (Ne.symm n2), upd_ne (Ne.symm n3)] at hsl; exact hsl
  refine ⟨_, rfl, r, D.CT, dx, [("pieces", .ref pl)], rfl, by rw [upd_ne n2]; exact upd_same, T.clT, T.nTs, (by show 1 < 1000; decide), ?_⟩
  refine k _ pl sl (fun b o hb hbo => ?_) hpl hsl0 ⟨⟨dx, upd_same⟩, ?_, n3, List.nodup_nil, by simp, by simp, .nil, [], ?_, .nil⟩
  · rw [upd_ne hb, upd_ne (ne_of_none hbo hsl0), upd_ne hb, upd_ne (ne_of_none hbo hpl)]
    exact hbo
  · rw [upd_ne (Ne.symm n1), upd_ne n3, upd_ne (Ne.symm n1), upd_same]
    rfl
  · rw [upd_ne (Ne.symm n2), upd_same]
theorem scPI : FnScope ["self", "name", "grain", "corners"] ["self", "name", "grain", "corners"] (defScope S_Piece_I) := ⟨rfl, rfl, rfl, by decide +kernel, rfl, by decide +kernel, by decide +kernel⟩
def spPI (D : PAd) : Sp := fun vs H Q _ => ∃ r dx n g c, vs = [.ref r, n, g, c] ∧ H r = some (.ins D.CP dx []) ∧ ∀ H', (∀ b o, b ≠ r → H b = some o → H' b = some o) → H' r = some (.ins D.CP dx [("name", n), ("grain", g), ("corners", c)]) → Q .non H'
theorem ok_PI (T : PatC K mg D) : FnOk P w K mg base CX0 1 D.fPI D.dPI ["self", "name", "grain", "corners"] (spPI D) := by
  refine T.IP.F.ok scPI (fun vs H Q E h => ?_) (fun cdv A outer s H vs Q E hr h => ?_)
  · obtain ⟨r, dx, n, g, c, rfl, _⟩ := h
    rfl
  obtain ⟨r, dx, n, g, c, rfl, e, k⟩ := h
  refine ⟨_, pss_cons (ps_fld (pv 0) (pv 1) rfl) (pss_cons (ps_fld (pv 0) (pv 2) rfl) (pss_one (ps_fld (pv 0) (pv 3) rfl))), ?_⟩
  refine ⟨_, rfl, _, rfl, r, D.CP, dx, [], rfl, e, T.clP, T.nPn, (by show 0 < 1000; decide), ?_⟩
  refine ⟨_, rfl, _, rfl, r, D.CP, dx, _, rfl, upd_same, T.clP, T.nPg, (by show 1 < 1000; decide), ?_⟩
  refine ⟨_, rfl, _, rfl, r, D.CP, dx, _, rfl, upd_same, T.clP, T.nPc, (by show 2 < 1000; decide), ?_⟩
  refine k _ (fun b o hb hbo => ?_) upd_same
  rw [upd_ne hb, upd_ne hb, upd_ne hb]
  exact hbo
/-- the piece at a place -/
theorem pat_at {CT CP : Addr} {H : Hp} {r pl sl : Addr} {vcs : List (V × Addr)} {ps : List SeamPattern.Piece} {ss : List Seam} (h : PatS CT CP H r pl sl vcs ps ss) {i : Nat} {p : SeamPattern.Piece} (hi : ps[i]? = some p) :
    ∃ v cl, (vcs.map Prod.fst)[i]? = some v ∧ PcAt CP H v cl p := by
  obtain ⟨x, hx, q⟩ := paired_at h.all i p hi
  exact ⟨x.1, x.2, by rw [List.getElem?_map, hx]; rfl, q⟩
theorem pat_len {CT CP : Addr} {H : Hp} {r pl sl : Addr} {vcs : List (V × Addr)} {ps : List SeamPattern.Piece} {ss : List Seam} (h : PatS CT CP H r pl sl vcs ps ss) : (vcs.map Prod.fst).length = ps.length := by
  rw [List.length_map]
  exact Paired.length h.all
theorem dp_num {H : Hp} {v : V} {q : Rat} (h : Nm H v q) : Dp K H v (.tuple [.int q.num, .int q.den]) := by
  obtain ⟨a, rfl, e⟩ := h
  exact .tup (SqT.of e) (.cons (.int _) (.cons (.int _) .nil))
theorem dp_pt {H : Hp} {v : V} {p : Point} (h : PtAt H v p) : Dp K H v (.tuple [.tuple [.int p.1.num, .int p.1.den], .tuple [.int p.2.num, .int p.2.den]]) := by
  obtain ⟨a, vx, vy, rfl, e, h1, h2⟩ := h
  exact .tup (SqT.of e) (.cons (dp_num h1) (.cons (dp_num h2) .nil))
theorem shaped_pt (a b c d : Int) : SeqAt.shaped (.tuple [.tuple [.int a, .int b], .tuple [.int c, .int d]]) = true := rfl
end
end SDP
set_option Elab.async false
set_option linter.all false
set_option maxRecDepth 100000
set_option maxHeartbeats 4000000
set_option exponentiation.threshold 100000
namespace SDP
open PySem PySem.Spec PyProof.Rows L2 SDX SD TL SR
open SeamNum (Bytes fits FINE Point fitsP)
open SeamPattern (Edge Seam)
section
variable {P : Program} {w : World} {K : PySem.W.Frag} {mg : Str → Option Value} {base : Heap} {D : PAd}
/-! ### has_edge, length, are_of_one_length -/
structure EdgeT (K : PySem.W.Frag) (mg : Str → Option Value) (D : PAd) (fP fM fX fF fE fA fH fL fO : Addr) (dP dM dX dF dE dA dH dL dO : FuncData) : Prop where
  C : PatC K mg D
  T : LenT K mg fP fM fX fF fE dP dM dX dF dE
  A : Fn1 K mg "alike" S_alike ["a", "b"] fA dA
  H : Mt1 K D.CT "has_edge" "Pattern.has_edge" S_Pattern_has_edge ["self", "edge"] fH dH
  L : Mt1 K D.CT "length" "Pattern.length" S_Pattern_length ["self", "edge"] fL dL
  O : Mt1 K D.CT "are_of_one_length" "Pattern.are_of_one_length" S_Pattern_are_of_one_length ["self", "first", "second"] fO dO
variable {fP fM fX fF fE fA fH fL fO : Addr} {dP dM dX dF dE dA dH dL dO : FuncData}
def spHas (D : PAd) : Sp := fun vs H Q _ => ∃ r pl sl vcs ps ss ve e, vs = [.ref r, ve] ∧ PatS D.CT D.CP H r pl sl vcs ps ss ∧ EdAt H ve e ∧ Q (.bl (hasE ps e)) H
theorem scHas : FnScope ["self", "edge"] ["self", "edge"] (defScope S_Pattern_has_edge) := ⟨rfl, rfl, rfl, by decide +kernel, rfl, by decide +kernel, by decide +kernel⟩
theorem ok_has (T : EdgeT K mg D fP fM fX fF fE fA fH fL fO dP dM dX dF dE dA dH dL dO) : FnOk P w K mg base CX0 1 fH dH ["self", "edge"] (spHas D) := by
  refine T.H.F.ok scHas (fun vs H Q E h => ?_) (fun cdv A outer s H vs Q E hr h => ?_)
  · obtain ⟨r, pl, sl, vcs, ps, ss, ve, e, rfl, _⟩ := h
    rfl
  obtain ⟨r, pl, sl, vcs, ps, ss, ve, e, rfl, S, ⟨a, rfl, he⟩, k⟩ := h
  have ml := T.T.len
  refine ⟨_, pss_one (ps_ret (pe_and (pe_cmpR op_lt (pe_ix ix_tup (pv 1) pe_int (fun _ _ => rfl)) (pe_callB call_len_seq rfl ml PySem.boot_len (pa_cons (pe_fld (pv 0) rfl) pa_nil)) (nomark _))
    (pe_one (pe_cmpR op_lt (pe_ix ix_tup (pv 1) pe_int (fun _ _ => rfl)) (pe_callB call_len_seq rfl ml PySem.boot_len (pa_cons (pe_fld (pe_ix ix_list (pe_fld (pv 0) rfl) (pe_ix ix_tup (pv 1) pe_int (fun _ _ => rfl)) (fun _ _ => rfl)) rfl) pa_nil)) (nomark _))))), ?_⟩
  obtain ⟨dx, ei⟩ := S.ins
  have len := pat_len S
  refine ⟨_, rfl, a, _, 0, .int e.1, rfl, rfl, SqT.of he, atI_nat (j := 0) rfl, _, rfl, r, D.CT, dx, _, _, rfl, ei, T.C.clT, T.C.nTp, rfl, pl, _, rfl, .inl (SqL.of S.pcs), _, _, rfl, rfl, _, rfl, ?_⟩
  rw [len]
  unfold hasE at k
  cases hp : ps[e.1]? with
  | none =>
    rw [hp] at k
    have hlt : ¬ ((e.1 : Int) < (ps.length : Int)) := by
      have := List.getElem?_eq_none_iff.mp hp
      omega
    rw [decide_eq_false hlt]
    exact iteF k
  | some p =>
    rw [hp] at k
    have hlt : ((e.1 : Int) < (ps.length : Int)) := by
      have := (List.getElem?_eq_some_iff.mp hp).1
      omega
    rw [decide_eq_true hlt]
    obtain ⟨v, cl, gv, b, dx2, g, rfl, eb, hg, cvs, hcl, hrow⟩ := pat_at S hp
    refine iteT ⟨_, rfl, a, _, 1, .int e.2, rfl, rfl, SqT.of he, atI_nat (j := 1) rfl, _, rfl, r, D.CT, dx, _, _, rfl, ei, T.C.clT, T.C.nTp, rfl, _, rfl, a, _, 0, .int e.1, rfl, rfl, SqT.of he, atI_nat (j := 0) rfl, pl, _, _, .ref b, rfl, rfl, SqL.of S.pcs, atI_nat (j := e.1) gv, b, D.CP, dx2, _, _, rfl, eb, T.C.clP, T.C.nPc, rfl, cl, _, rfl, .inl (SqL.of hcl), _, _, rfl, rfl, ?_⟩
    rw [Paired.length hrow]
    have e2 : decide ((e.2 : Int) < (p.row.length : Int)) = decide (e.2 < p.row.length) := by
      rw [decide_eq_decide]
      omega
    show Q (.bl (decide ((e.2 : Int) < (p.row.length : Int)))) H
    rw [e2]
    exact k
def spLength (D : PAd) : Sp := fun vs H Q _ => ∃ r pl sl vcs ps ss ve e, vs = [.ref r, ve] ∧ PatS D.CT D.CP H r pl sl vcs ps ss ∧ Fine ps ∧ EdAt H ve e ∧ hasE ps e = true ∧
  ∀ H' p n d, Same H H' → H p = none → H' p = some (two n d) → Rep (lenOf ps e) n d → n.natAbs < 2 ^ 600 → d.natAbs < 2 ^ 600 → Q (.ref p) H'
theorem scLength : FnScope ["self", "edge"] ["self", "edge"] (defScope S_Pattern_length) := ⟨rfl, rfl, rfl, by decide +kernel, rfl, by decide +kernel, by decide +kernel⟩
theorem ok_length (T : EdgeT K mg D fP fM fX fF fE fA fH fL fO dP dM dX dF dE dA dH dL dO) : FnOk P w K mg base CX0 3 fL dL ["self", "edge"] (spLength D) := by
  refine T.L.F.ok scLength (fun vs H Q E h => ?_) (fun cdv A outer s H vs Q E hr h => ?_)
  · obtain ⟨r, pl, sl, vcs, ps, ss, ve, e, rfl, _⟩ := h
    rfl
  obtain ⟨r, pl, sl, vcs, ps, ss, ve, e, rfl, S, F, ⟨a, rfl, he⟩, hh, k⟩ := h
  refine ⟨_, pss_one (ps_ret (pe_call (ok_len2 T.T) hr rfl T.T.E.m T.T.E.F.kp T.T.E.b .nil pass0 (pa_cons (pe_fld (pe_ix ix_list (pe_fld (pv 0) rfl) (pe_ix ix_tup (pv 1) pe_int (fun _ _ => rfl)) (fun _ _ => rfl)) rfl) (pa_cons (pe_ix ix_tup (pv 1) pe_int (fun _ _ => rfl)) pa_nil)))), ?_⟩
  obtain ⟨dx, ei⟩ := S.ins
  unfold hasE at hh
  unfold lenOf at k
  cases hp : ps[e.1]? with
  | none => rw [hp] at hh; cases hh
  | some p =>
    rw [hp] at hh k
    have hp' := List.mem_of_getElem? hp
    obtain ⟨v, cl, gv, b, dx2, g, rfl, eb, hg, hrow⟩ := pat_at S hp
    refine ⟨_, rfl, r, D.CT, dx, _, _, rfl, ei, T.C.clT, T.C.nTp, rfl, _, rfl, a, _, 0, .int e.1, rfl, rfl, SqT.of he, atI_nat (j := 0) rfl, pl, _, _, .ref b, rfl, rfl, SqL.of S.pcs, atI_nat (j := e.1) gv, b, D.CP, dx2, _, _, rfl, eb, T.C.clP, T.C.nPc, rfl, _, rfl, a, _, 1, .int e.2, rfl, rfl, SqT.of he, atI_nat (j := 1) rfl, ?_⟩
    exact ⟨cl, p.row, e.2, rfl, hrow, F.fit p hp', of_decide_eq_true hh, F.row p hp', fun H' q n d s1 hq h2 R b1 b2 => k H' q n d s1 hq h2 R b1 b2⟩
def spOneL (D : PAd) : Sp := fun vs H Q _ => ∃ r pl sl vcs ps ss v1 e1 v2 e2, vs = [.ref r, v1, v2] ∧ PatS D.CT D.CP H r pl sl vcs ps ss ∧ Fine ps ∧ EdAt H v1 e1 ∧ EdAt H v2 e2 ∧ hasE ps e1 = true ∧ hasE ps e2 = true ∧ ∀ H', Same H H' → Q (.bl (lenOf ps e1 == lenOf ps e2)) H'
theorem scOneL : FnScope ["self", "first", "second"] ["self", "first", "second"] (defScope S_Pattern_are_of_one_length) := ⟨rfl, rfl, rfl, by decide +kernel, rfl, by decide +kernel, by decide +kernel⟩
theorem ok_oneL (T : EdgeT K mg D fP fM fX fF fE fA fH fL fO dP dM dX dF dE dA dH dL dO) : FnOk P w K mg base CX0 4 fO dO ["self", "first", "second"] (spOneL D) := by
  refine T.O.F.ok scOneL (fun vs H Q E h => ?_) (fun cdv A outer s H vs Q E hr h => ?_)
  · obtain ⟨r, pl, sl, vcs, ps, ss, v1, e1, v2, e2, rfl, _⟩ := h
    rfl
  obtain ⟨r, pl, sl, vcs, ps, ss, v1, e1, v2, e2, rfl, S, F, h1, h2, hh1, hh2, k⟩ := h
  have hr1 : Room 1 _ := hr.mono (by decide)
  have okL := ok_length (P := P) (w := w) (base := base) T
  refine ⟨_, pss_one (ps_ret (pe_call (ok_alike T.A) hr1 rfl T.A.m T.A.F.kp T.A.b .nil pass0 (pa_cons (pe_meth (pv 0) T.C.clT T.L.m okL hr T.L.b .nil pass0 (pa_cons (pv 1) pa_nil)) (pa_cons (pe_meth (pv 0) T.C.clT T.L.m okL hr T.L.b .nil pass0 (pa_cons (pv 2) pa_nil)) pa_nil)))), ?_⟩
  obtain ⟨dx, ei⟩ := S.ins
  refine ⟨_, rfl, r, dx, _, rfl, ei, rfl, _, rfl, r, pl, sl, vcs, ps, ss, v1, e1, rfl, S, F, h1, hh1, fun H1 p1 n1 d1 s1 hp1 q1 R1 b1 c1 => ?_⟩
  refine ⟨_, rfl, r, dx, _, rfl, s1 _ _ ei, rfl, _, rfl, r, pl, sl, vcs, ps, ss, v2, e2, rfl, S.same s1, F, h2.same s1, hh2, fun H2 p2 n2 d2 s2 hp2 q2 R2 b2 c2 => ?_⟩
  refine ⟨_, _, n1, d1, n2, d2, 600, 600, rfl, (Tw.of q1).same s2, Tw.of q2, b1, c1, b2, c2, by decide, ?_⟩
  have e := R1.eq_iff R2
  have eb : (lenOf ps e1 == lenOf ps e2) = decide (n1 * d2 = n2 * d1) := by
    rw [Bool.eq_iff_iff, beq_iff_eq, decide_eq_true_eq]
    exact e
  rw [eb] at k
  exact k H2 (s1.trans s2)
/-! ### pieces_may_be -/
def NoDir (K : PySem.W.Frag) (mg : Str → Option Value) : Prop := ∃ a, mg "NO_DIRECTION" = some (.ref a) ∧ ∀ H, Dp K H (.ref a) (.tuple [.tuple [.int 0, .int 1], .tuple [.int 0, .int 1]])
structure MayT (K : PySem.W.Frag) (mg : Str → Option Value) (D : PAd) (fS fA fH fK fB fW fT fF fC fM : Addr) (dS dA dH dK dB dW dT dF dC dM : FuncData) : Prop where
  C : PatC K mg D
  R : RowT K mg fS fA fH fK fB fW fT fF fC dS dA dH dK dB dW dT dF dC
  M : Fn1 K mg "pieces_may_be" S_pieces_may_be ["pattern"] fM dM
  nd : NoDir K mg
  set : mg "set" = none
  all : mg "all" = none
theorem rat_zero {q : Rat} : (q.num = 0 ∧ (q.den : Int) = 1) ↔ q = 0 := by
  constructor
  · rintro ⟨h, _⟩
    exact Rat.num_eq_zero.mp h
  · intro h
    rw [h]
    exact ⟨rfl, rfl⟩
theorem eqv_origin (p : Point) : (!PyData.eqv (.tuple [.tuple [.int p.1.num, .int p.1.den], .tuple [.int p.2.num, .int p.2.den]]) (.tuple [.tuple [.int 0, .int 1], .tuple [.int 0, .int 1]])) = (p != SeamNum.origin) := by
  have e : PyData.eqv (.tuple [.tuple [.int p.1.num, .int p.1.den], .tuple [.int p.2.num, .int p.2.den]]) (.tuple [.tuple [.int 0, .int 1], .tuple [.int 0, .int 1]]) = (p == SeamNum.origin) := by
    rw [Bool.eq_iff_iff, beq_iff_eq]
    simp only [PyData.eqv, PyData.eqvAll, Bool.and_eq_true, beq_iff_eq, and_true]
    have a := rat_zero (q := p.1)
    have b := rat_zero (q := p.2)
    rw [a, b]
    constructor
    · rintro ⟨x, y⟩
      exact Prod.ext x y
    · intro z
      rw [z]
      exact ⟨rfl, rfl⟩
  rw [e]
  rfl
theorem noneTwice_bytes : ∀ (l : List Bytes), SeamPattern.noneTwice l = true ↔ l.Nodup
  | [] => by simp [SeamPattern.noneTwice]
  | x :: l => by
    rw [SeamPattern.noneTwice, List.nodup_cons, Bool.and_eq_true, noneTwice_bytes l]
    simp
theorem nodup_tx : ∀ l : List Bytes, (l.map tx).Nodup ↔ l.Nodup
  | [] => by simp
  | x :: l => by
    rw [List.map_cons, List.nodup_cons, List.nodup_cons, nodup_tx l]
    have e : tx x ∈ l.map tx ↔ x ∈ l := by
      rw [List.mem_map]
      exact ⟨fun ⟨y, hy, q⟩ => by rw [← tx_inj q]; exact hy, fun h => ⟨x, h, rfl⟩⟩
    rw [e]
def mayBe (ps : List SeamPattern.Piece) : Bool := SeamPattern.noneTwice (ps.map fun p => p.name) && ps.all fun p => (p.grain != SeamNum.origin) && (SeamPoly.simple p.row && decide (0 < SeamPoly.area p.row))
variable {fS fK fB fW fT fC fM' : Addr} {dS dK dB dW dT dC dM' : FuncData}
def spMayP (D : PAd) : Sp := fun vs H Q _ => ∃ r pl sl vcs ps ss, vs = [.ref r] ∧ PatS D.CT D.CP H r pl sl vcs ps ss ∧ Fine ps ∧ (∀ p ∈ ps, 3 ≤ p.row.length) ∧ ∀ H', Same H H' → Q (.bl (mayBe ps)) H'
theorem scMayP : FnScope ["pattern", "names", "piece"] ["pattern"] (defScope S_pieces_may_be) := ⟨rfl, rfl, rfl, by decide +kernel, rfl, by decide +kernel, by decide +kernel⟩
theorem ok_mayP (T : MayT K mg D fS fA fH fK fB fW fT fF fC fM' dS dA dH dK dB dW dT dF dC dM') : FnOk P w K mg base CX0 5 fM' dM' ["pattern"] (spMayP D) := by
  refine T.M.F.ok scMayP (fun vs H Q E h => ?_) (fun cdv A outer s H vs Q E hr h => ?_)
  · obtain ⟨r, pl, sl, vcs, ps, ss, rfl, _⟩ := h
    rfl
  obtain ⟨r, pl, sl, vcs, ps, ss, rfl, S, F, h3, k⟩ := h
  obtain ⟨aN, gN, dN⟩ := T.nd
  have ml := T.R.T.len
  refine ⟨_, pss_cons (ps_setLc (i := 1) (own := [("piece", 2)]) (g := gName 2) (tt := tYes) (te := tFld K (tVar 2) "name") rfl scMayP.nd rfl rfl (sw_true rfl rfl rfl rfl) (pi_list (pe_fld (pv 0) rfl)) (blkOk_by (N := ["pattern", "names", "piece"]) (sc := defScope S_pieces_may_be) (by decide +kernel))
      (fun _ _ _ _ _ => pg_name (i := 2) scMayP.nd rfl (Or.inl rfl)) (fun _ _ _ _ _ => pts_nil) (fun _ _ _ _ _ => pe_fld (pv 2) rfl))
    (pss_cons (ps_if (pt_cmpR op_lt (pe_lenTexts rfl rfl ml rfl T.set (pv 1)) (pe_callB call_len_seq rfl ml PySem.boot_len (pa_cons (pv 1) pa_nil)) (nomark _)) (pss_one (ps_ret pe_bl)) pss_nil)
    (pss_one (ps_ret (pe_callB (cr_all rfl) rfl T.all (by decide +kernel) (pa_cons (pe_lc (own := [("piece", 2)]) (g := gName 2) (tt := tYes) (te := tAndV (tOp (rNeD K) (tFld K (tVar 2) "grain") (tC (.ref aN))) (tCall spCorners [] E0 (tCons (tFld K (tVar 2) "corners") tNil))) rfl scMayP.nd (pi_list (pe_fld (pv 0) rfl)) (blkOk_by (N := ["pattern", "names", "piece"]) (sc := defScope S_pieces_may_be) (by decide +kernel))
      (fun _ _ _ _ _ => pg_name (i := 2) scMayP.nd rfl (Or.inl rfl)) (fun _ _ _ _ _ => pts_nil)
      (fun _ _ _ _ _ => pe_and (pe_cmpR (op_neD hr.units) (pe_fld (pv 2) rfl) (pe_gr rfl gN) (nomark _)) (pe_one (pe_call (ok_corners T.R) hr rfl T.R.C.m T.R.C.F.kp T.R.C.b .nil pass0 (pa_cons (pe_fld (pv 2) rfl) pa_nil))))) pa_nil))))), ?_⟩
  obtain ⟨dx, ei⟩ := S.ins
  have len := pat_len S
  have few := F.few
  -- the names
  refine ⟨_, rfl, r, D.CT, dx, _, _, rfl, ei, T.C.clT, T.C.nTp, rfl, pl, rfl, ⟨_, SqL.of S.pcs⟩, fun D2 hD2 => ?_⟩
  refine lc_list (xs := vcs.map Prod.fst) (fun i H' => Same H H' ∧ H' D2 = some (.lst (((ps.take i).map fun p => tx p.name).map V.str))) ⟨same_new hD2 _, upd_same⟩ (fun i H' _ ⟨s1, _⟩ => SqL.of (s1 _ _ S.pcs)) (fun i x H' hi ⟨s1, s2⟩ => ?_) (fun H' ⟨s1, s2⟩ => ?_)
  · have hil : i < ps.length := by rw [← len]; exact (List.getElem?_eq_some_iff.mp hi).1
    have hp : ps[i]? = some ps[i] := List.getElem?_eq_getElem hil
    obtain ⟨v, cl, gv, b, dx2, g, rfl, eb, hg, hrow⟩ := pat_at S hp
    rw [hi] at gv
    obtain rfl : x = .ref b := Option.some.inj gv
    refine ⟨rfl, _, rfl, b, D.CP, dx2, _, _, rfl, s1 _ _ eb, T.C.clP, T.C.nPn, rfl, _, s2, by rw [List.length_map, List.length_map, List.length_take, sizeLine_eq]; omega, ?_, ?_⟩
    · intro b' o hb
      rw [upd_ne (ne_of_none hb hD2)]
      exact s1 b' o hb
    · rw [upd_same, List.take_add_one, hp, List.map_append, List.map_append]
      rfl
  have tk : ps.take (vcs.map Prod.fst).length = ps := by rw [len]; exact List.take_length
  rw [tk] at s2
  have ln : (ps.map fun p => tx p.name).length = ps.length := List.length_map _
  refine ⟨_, rfl, D2, ps.map fun p => tx p.name, rfl, SqL.of s2, by rw [ln]; omega, fun n n1 n2 => ?_⟩
  refine ⟨_, rfl, D2, _, rfl, .inl (SqL.of s2), _, _, rfl, rfl, _, rfl, ?_⟩
  have nod : (ps.map fun p => tx p.name).Nodup ↔ SeamPattern.noneTwice (ps.map fun p => p.name) = true := by
    rw [noneTwice_bytes]
    have e : (ps.map fun p => tx p.name) = (ps.map fun p => p.name).map tx := by rw [List.map_map]; rfl
    rw [e]
    exact nodup_tx _
  rw [List.length_map, ln]
  rw [ln] at n1 n2
  refine ite2 (fun z => ?_) (fun z => ?_)
  · have z' := of_decide_eq_true z
    have e : mayBe ps = false := by
      unfold mayBe
      have : SeamPattern.noneTwice (ps.map fun p => p.name) = false := by
        rw [Bool.eq_false_iff]
        intro y
        have := n2.mpr (nod.mpr y)
        omega
      rw [this]
      rfl
    rw [e] at k
    exact k _ s1
  · have z' := of_decide_eq_false (Bool.eq_false_iff.mpr z)
    have nt : SeamPattern.noneTwice (ps.map fun p => p.name) = true := nod.mp (n2.mp (by omega))
    refine ⟨_, rfl, r, D.CT, dx, _, _, rfl, s1 _ _ ei, T.C.clT, T.C.nTp, rfl, pl, rfl, ⟨_, SqL.of (s1 _ _ S.pcs)⟩, fun D3 hD3 => ?_⟩
    have hD3H : H D3 = none := s1.free hD3
    refine lc_list (xs := vcs.map Prod.fst) (fun i H2 => Same H H2 ∧ H2 D3 = some (.lst (((ps.take i).map fun p => (p.grain != SeamNum.origin) && (SeamPoly.simple p.row && decide (0 < SeamPoly.area p.row))).map V.bl))) ⟨s1.trans (same_new hD3 _), upd_same⟩ (fun i H2 _ ⟨s3, _⟩ => SqL.of (s3 _ _ S.pcs)) (fun i x H2 hi ⟨s3, s4⟩ => ?_) (fun H2 ⟨s3, s4⟩ => ?_)
    · have hil : i < ps.length := by rw [← len]; exact (List.getElem?_eq_some_iff.mp hi).1
      have hp : ps[i]? = some ps[i] := List.getElem?_eq_getElem hil
      have mp := List.mem_of_getElem? hp
      obtain ⟨v, cl, gv, b, dx2, g, rfl, eb, hg, hrow⟩ := pat_at S hp
      rw [hi] at gv
      obtain rfl : x = .ref b := Option.some.inj gv
      have fin : ∀ (H3 : Hp) (c : Bool), Same H2 H3 → c = ((ps[i].grain != SeamNum.origin) && (SeamPoly.simple ps[i].row && decide (0 < SeamPoly.area ps[i].row))) → ∃ acc, H3 D3 = some (.lst acc) ∧ acc.length < sizeLine ∧ Same H (upd H3 D3 (.lst (acc ++ [V.bl c]))) ∧ upd H3 D3 (.lst (acc ++ [V.bl c])) D3 = some (.lst (((ps.take (i + 1)).map fun p => (p.grain != SeamNum.origin) && (SeamPoly.simple p.row && decide (0 < SeamPoly.area p.row))).map V.bl)) := fun H3 c s5 ec => by
        refine ⟨_, s5 _ _ s4, by rw [List.length_map, List.length_map, List.length_take, sizeLine_eq]; omega, fun b' o hb => ?_, ?_⟩
        · rw [upd_ne (ne_of_none hb hD3H)]
          exact s5 _ _ (s3 b' o hb)
        · rw [upd_same, List.take_add_one, hp, List.map_append, List.map_append, ec]
          rfl
      refine ⟨rfl, _, rfl, b, D.CP, dx2, _, _, rfl, s3 _ _ eb, T.C.clP, T.C.nPg, rfl, _, _, dp_pt (hg.same s3), dN H2, shaped_pt _ _ _ _, shaped_pt _ _ _ _, ?_⟩
      rw [eqv_origin]
      cases ho : ps[i].grain != SeamNum.origin with
      | false =>
        refine ⟨_, rfl, iteF ?_⟩
        obtain ⟨acc, a1, a2, a3, a4⟩ := fin H2 false (Same.refl _) (by rw [ho]; rfl)
        exact ⟨acc, a1, a2, a3, a4⟩
      | true =>
        refine ⟨_, rfl, iteT ⟨_, rfl, b, D.CP, dx2, _, _, rfl, s3 _ _ eb, T.C.clP, T.C.nPc, rfl, cl, ps[i].row, rfl, hrow.same s3, F.fit _ mp, h3 _ mp, F.row _ mp, fun H3 s5 => ?_⟩⟩
        obtain ⟨acc, a1, a2, a3, a4⟩ := fin H3 _ s5 (by rw [ho, Bool.true_and])
        exact ⟨acc, a1, a2, a3, a4⟩
    · rw [tk] at s4
      refine ⟨D3, _, rfl, SqL.of s4, ?_⟩
      unfold mayBe at k
      rw [nt, Bool.true_and] at k
      have e : ((ps.map fun p => (p.grain != SeamNum.origin) && (SeamPoly.simple p.row && decide (0 < SeamPoly.area p.row))).all id) = ps.all fun p => (p.grain != SeamNum.origin) && (SeamPoly.simple p.row && decide (0 < SeamPoly.area p.row)) := by
        rw [List.all_map]
        first | rfl | done
      rw [e]
      exact k _ s3
end
end SDP
set_option Elab.async false
set_option linter.all false
/-! # A line by its first word -/
namespace SR
open SeamNum SeamPoly SeamPattern SD

def pointW : List Bytes → Option Point
  | [a, c] => readPoint a c
  | _ => none
def pieceW : List Bytes → Option Line
  | [n, a, c] => if isName n = true then (readPoint a c).map fun (g : Point) => Line.piece n g else none
  | _ => none
def cornerW (ws : List Bytes) : Option Line := (pointW ws).map Line.corner
def seamW : List Bytes → Option Line
  | [i, j, k, l] => match readNat i, readNat j, readNat k, readNat l with
    | some i, some j, some k, some l => some (.seam ((i, j), (k, l)))
    | _, _, _, _ => none
  | _ => none
def lineW (ws : List Bytes) : Option Line := match ws with
  | [w] => if w = ascii "end" then some .end_ else none
  | [a, c] => (readPoint a c).map Line.corner
  | [w, n, a, c] => if w = ascii "piece" ∧ isName n = true then (readPoint a c).map fun (g : Point) => .piece n g else none
  | [w, i, j, k, l] => if w = ascii "seam" then (match readNat i, readNat j, readNat k, readNat l with
    | some i, some j, some k, some l => some (.seam ((i, j), (k, l)))
    | _, _, _, _ => none) else none
  | _ => none
theorem readLine_w (b : Bytes) : readLine b = lineW (wordsOf b) := rfl
theorem no_num {b : Bytes} {c : UInt8} (hc : c ∈ b) (h : numByte c = false) : readNum b = none := by
  cases e : readNum b with
  | none => rfl
  | some x =>
    exfalso
    have q := num_bytes e c hc
    unfold numByte at h
    rcases q with q | q | q
    · rw [q] at h; cases h
    · rw [q] at h; revert h; decide
    · rw [q] at h; revert h; decide
theorem no_point {a c : Bytes} (h : readNum a = none) : readPoint a c = none := by
  unfold readPoint
  rw [h]
  rfl
theorem end_num : readNum (ascii "end") = none := no_num (c := 101) (by decide +kernel) (by decide)
theorem piece_num : readNum (ascii "piece") = none := no_num (c := 112) (by decide +kernel) (by decide)
theorem seam_num : readNum (ascii "seam") = none := no_num (c := 115) (by decide +kernel) (by decide)
theorem ends_ne : ascii "end" ≠ ascii "piece" ∧ ascii "end" ≠ ascii "seam" ∧ ascii "piece" ≠ ascii "seam" := by decide +kernel
theorem lineW_is (ws : List Bytes) : lineW ws = if ws = [ascii "end"] then some .end_ else if ws.headD [] = ascii "piece" then pieceW ws.tail else if ws.headD [] = ascii "seam" then seamW ws.tail else cornerW ws := by
  have ne : ∀ w : Bytes, ∀ x y : Bytes, ∀ l : List Bytes, ¬ (x :: y :: l : List Bytes) = [w] := fun w x y l z => by simp at z
  match ws with
  | [] => rfl
  | [w] =>
    show (if w = ascii "end" then some Line.end_ else none) = _
    by_cases h : w = ascii "end"
    · rw [if_pos h, if_pos (by rw [h])]
    · rw [if_neg h, if_neg (fun z => h (by simpa using z))]
      split
      · rfl
      · split <;> rfl
  | [a, c] =>
    rw [if_neg (ne _ _ _ _)]
    show (readPoint a c).map Line.corner = if a = ascii "piece" then pieceW [c] else if a = ascii "seam" then seamW [c] else cornerW [a, c]
    by_cases h1 : a = ascii "piece"
    · rw [if_pos h1, h1, no_point piece_num]
      rfl
    · rw [if_neg h1]
      by_cases h2 : a = ascii "seam"
      · rw [if_pos h2, h2, no_point seam_num]
        rfl
      · rw [if_neg h2]
        rfl
  | [a, b, c] =>
    rw [if_neg (ne _ _ _ _)]
    split
    · rfl
    · split <;> rfl
  | [w, n, a, c] =>
    rw [if_neg (ne _ _ _ _)]
    show (if w = ascii "piece" ∧ isName n = true then _ else none) = if w = ascii "piece" then pieceW [n, a, c] else if w = ascii "seam" then seamW [n, a, c] else cornerW [w, n, a, c]
    by_cases h1 : w = ascii "piece"
    · rw [if_pos h1]
      show _ = if isName n = true then _ else none
      by_cases h2 : isName n = true
      · rw [if_pos ⟨h1, h2⟩, if_pos h2]
      · rw [if_neg (fun z => h2 z.2), if_neg h2]
    · rw [if_neg (fun z => h1 z.1), if_neg h1]
      split <;> rfl
  | [w, i, j, k, l] =>
    rw [if_neg (ne _ _ _ _)]
    show (if w = ascii "seam" then _ else none) = if w = ascii "piece" then pieceW [i, j, k, l] else if w = ascii "seam" then seamW [i, j, k, l] else cornerW [w, i, j, k, l]
    by_cases h1 : w = ascii "piece"
    · have h2 : w ≠ ascii "seam" := fun z => ends_ne.2.2 (by rw [← h1, z])
      rw [if_pos h1, if_neg h2]
      rfl
    · rw [if_neg h1]
      by_cases h2 : w = ascii "seam"
      · rw [if_pos h2, if_pos h2]
        rfl
      · rw [if_neg h2, if_neg h2]
        rfl
  | _ :: _ :: _ :: _ :: _ :: _ :: _ =>
    rw [if_neg (ne _ _ _ _)]
    split
    · rfl
    · split <;> rfl
/-- first digits of a number's text -/
theorem trim_word {w : Bytes} {n : Nat} (h : readNat w = some n) : natOf (w.take 3) = trimN n := by
  rw [(readNat_some h).2.2]
  rfl
end SR
set_option Elab.async false
set_option linter.all false
set_option maxRecDepth 100000
set_option maxHeartbeats 4000000
set_option exponentiation.threshold 100000
/-! # seams_may_be; words -/
namespace SDP
open PySem PySem.Spec PyProof.Rows L2 SDX SD TL SR
open SeamNum (Bytes fits FINE Point fitsP)
open SeamPattern (Edge Seam readNum readPoint isDigit natOf readNat)

theorem u65 {k : Nat} {A : Around} (r : Room k A) : A.units + 65 < cLine := by
  have := r.un
  omega
/-! ### lists of edges -/
def EdL (H : Hp) (l : Addr) (es : List Edge) : Prop := ∃ vs, H l = some (.lst vs) ∧ Paired (EdAt H) vs es
def edD (e : Edge) : PyData := .tuple [.int (e.1 : Int), .int (e.2 : Int)]
section
variable {K : PySem.W.Frag}
theorem dp_ed {H : Hp} {v : V} {e : Edge} (h : EdAt H v e) : Dp K H v (edD e) := by
  obtain ⟨a, rfl, q⟩ := h
  exact .tup (SqT.of q) (.cons (.int _) (.cons (.int _) .nil))
theorem dp_all {α : Type} {R : V → α → Prop} {g : α → PyData} {H : Hp} (hd : ∀ v x, R v x → Dp K H v (g x)) : ∀ {vs : List V} {xs : List α}, Paired R vs xs → DpAll K H vs (xs.map g)
  | _, _, .nil => .nil
  | _, _, .cons r t => .cons (hd _ _ r) (dp_all hd t)
theorem eqv_ed (e f : Edge) : PyData.eqv (edD e) (edD f) = (e == f) := by
  unfold edD
  rw [Bool.eq_iff_iff, beq_iff_eq]
  simp only [PyData.eqv, PyData.eqvAll, Bool.and_eq_true, beq_iff_eq, and_true]
  constructor
  · rintro ⟨a, b⟩
    exact Prod.ext (by omega) (by omega)
  · intro z
    rw [z]
    exact ⟨rfl, rfl⟩
theorem depth_ed : ∀ es : List Edge, PyData.depthAll (es.map edD) ≤ 1
  | [] => by simp [PyData.depthAll]
  | e :: r => by
    have ih := depth_ed r
    have h1 : PyData.depth (edD e) = 1 := by unfold edD; simp [PyData.depth, PyData.depthAll]
    rw [List.map_cons]
    unfold PyData.depthAll
    rw [h1]
    omega
theorem lay_ed : ∀ es : List Edge, PyData.canLayAll0 (es.map edD) = true
  | [] => by simp [PyData.canLayAll0]
  | e :: r => by
    have ih := lay_ed r
    rw [List.map_cons]
    unfold PyData.canLayAll0
    rw [ih]
    unfold edD
    simp [PyData.canLay0, PyData.canLayAll0]
theorem shaped_eds (es : List Edge) : SeqAt.shaped (.list (es.map edD)) = true := by
  unfold SeqAt.shaped
  have h1 : PyData.canLay0 (.list (es.map edD)) = true := by unfold PyData.canLay0; exact lay_ed es
  have h2 : PyData.depth (.list (es.map edD)) ≤ 64 := by
    have := depth_ed es
    unfold PyData.depth
    omega
  rw [h1, decide_eq_true h2]
  rfl
theorem any_ed (es : List Edge) (e : Edge) : ((es.map edD).any fun z => PyData.eqv z (edD e)) = es.contains e := by
  rw [List.any_map]
  induction es with
  | nil => rfl
  | cons f r ih =>
    rw [List.any_cons, List.contains_cons, ih]
    congr 1
    show PyData.eqv (edD f) (edD e) = _
    rw [eqv_ed, Bool.beq_comm]
end
section
variable {P : Program} {w : World} {K : PySem.W.Frag} {mg : Str → Option Value} {base : Heap} {D : PAd} {fP fM fX fF fE fA fH fL fO : Addr} {dP dM dX dF dE dA dH dL dO : FuncData}
def spMayS (D : PAd) : Sp := fun vs H Q _ => ∃ r pl sl vcs ps ss, vs = [.ref r] ∧ PatS D.CT D.CP H r pl sl vcs ps ss ∧ Fine ps ∧ ss.length ≤ 5000 ∧ ∀ H', Same H H' → Q (.bl (seamsOk ps ss [])) H'
theorem scMayS : FnScope ["pattern", "sewn", "first", "second", "edge"] ["pattern"] (defScope S_seams_may_be) := ⟨rfl, rfl, rfl, by decide +kernel, rfl, by decide +kernel, by decide +kernel⟩
theorem ok_mayS (T : EdgeT K mg D fP fM fX fF fE fA fH fL fO dP dM dX dF dE dA dH dL dO) {f : Addr} {fd : FuncData} (F : Fn1 K mg "seams_may_be" S_seams_may_be ["pattern"] f fd) : FnOk P w K mg base CX0 5 f fd ["pattern"] (spMayS D) := by
  refine F.F.ok scMayS (fun vs H Q E h => ?_) (fun cdv A outer s H vs Q E hr h => ?_)
  · obtain ⟨r, pl, sl, vcs, ps, ss, rfl, _⟩ := h
    rfl
  obtain ⟨r, pl, sl, vcs, ps, ss, rfl, S, Fi, h5, k⟩ := h
  have hr1 : Room 1 _ := hr.mono (by decide)
  refine ⟨_, pss_cons (ps_set (i := 1) scMayS.nd rfl (Or.inl rfl) (pe_lst pa_nil))
    (pss_cons (ps_for PassesOwn.never rfl (pi_list (pe_fld (pv 0) rfl)) (pg_tup rfl (pgs_cons (pg_name (i := 2) scMayS.nd rfl (Or.inl rfl)) (pgs_cons (pg_name (i := 3) scMayS.nd rfl (Or.inl rfl)) pgs_nil)))
      (pss_cons (ps_for PassesOwn.never rfl (pi_tup (pe_tup (pa_cons (pv 2) (pa_cons (pv 3) pa_nil)))) (pg_name (i := 4) scMayS.nd rfl (Or.inl rfl))
        (pss_cons (ps_if (PW.pt (pw_or (pt_not (pt_val (pe_meth (pv 0) T.C.clT T.H.m (ok_has T) hr1 T.H.b .nil pass0 (pa_cons (pv 4) pa_nil)))) (pw_or1 (pt_cmpR (op_inD (u65 hr)) (pv 4) (pv 1) (by rfl))))) (pss_one (ps_ret pe_bl)) pss_nil)
        (pss_one (ps_expr (pe_bm PySem.F.plainAttrs_list PySem.F.slot_list_append PySem.F.type_list_append mt_append (pv 1) (pa_cons (pv 4) pa_nil))))))
      (pss_one (ps_if (pt_not (pt_val (pe_meth (pv 0) T.C.clT T.O.m (ok_oneL T) hr T.O.b .nil pass0 (pa_cons (pv 2) (pa_cons (pv 3) pa_nil))))) (pss_one (ps_ret pe_bl)) pss_nil))))
    (pss_one (ps_ret pe_bl))), ?_⟩
  obtain ⟨dx, ei⟩ := S.ins
  obtain ⟨svs, hsv, hps⟩ := S.sms
  have lsv : svs.length = ss.length := Paired.length hps
  refine ⟨by show 0 ≤ sizeLine; decide, fun wl hwl => ?_⟩
  have s0 : Same H (upd H wl (.lst [])) := same_new hwl _
  refine ⟨_, rfl, r, D.CT, dx, _, _, rfl, s0 _ _ ei, T.C.clT, T.C.nTs, rfl, sl, rfl, ⟨_, SqL.of (s0 _ _ hsv)⟩, ?_⟩
  refine for_list (xs := svs) (fun i σ H' => Same H H' ∧ ∃ o2 o3 o4 es, σ = [some (.ref r), some (.ref wl), o2, o3, o4] ∧ EdL H' wl es ∧ es.length = 2 * i ∧ seamsOk ps ss [] = seamsOk ps (ss.drop i) es)
    ⟨s0, none, none, none, [], rfl, ⟨[], upd_same, .nil⟩, rfl, rfl⟩ (fun i σ H' _ ⟨s1, _⟩ => SqL.of (s1 _ _ hsv)) (fun i v σ H' hi ⟨s1, o2, o3, o4, es, eσ, ⟨evs, hw, hes⟩, el, eok⟩ => ?_) (fun σ H' ⟨s1, o2, o3, o4, es, eσ, _, el, eok⟩ => ?_)
  · subst eσ
    have hil : i < svs.length := (List.getElem?_eq_some_iff.mp hi).1
    obtain ⟨sm, hsm, a, v1, v2, rfl, ha, h1, h2⟩ := paired_fst hps i v hi
    have ed : ss.drop i = sm :: ss.drop (i + 1) := by
      have h := (List.getElem?_eq_some_iff.mp hsm)
      rw [List.drop_eq_getElem_cons h.1, h.2]
    have estep : seamsOk ps (sm :: ss.drop (i + 1)) es = ((hasE ps sm.1 && !es.contains sm.1) && ((hasE ps sm.2 && !(es ++ [sm.1]).contains sm.2) && ((lenOf ps sm.1 == lenOf ps sm.2) && seamsOk ps (ss.drop (i + 1)) (es ++ [sm.1] ++ [sm.2])))) := rfl
    rw [ed, estep] at eok
    have S1 := S.same s1
    refine ⟨a, _, rfl, SqT.of (s1 _ _ ha), rfl, _, _, rfl, _, _, rfl, rfl, ?_⟩
    refine ⟨_, rfl, _, rfl, by show 2 ≤ sizeLine; decide, fun tp htp => ⟨tp, rfl, ⟨_, SqT.of upd_same⟩, ?_⟩⟩
    have s2 : Same H' (upd H' tp (.tup [v1, v2])) := same_new htp _
    have htup : (upd H' tp (.tup [v1, v2])) tp = some (.tup [v1, v2]) := upd_same
    generalize upd H' tp (.tup [v1, v2]) = H2 at s2 htup ⊢
    have nwt : wl ≠ tp := fun z => by rw [z] at hw; rw [hw] at htp; cases htp
    have hwH : H wl = none := hwl
    refine for_tup (xs := [v1, v2]) (fun j σ H3 => Same H H3 ∧ H3 tp = some (.tup [v1, v2]) ∧ ∃ o4, σ = [some (.ref r), some (.ref wl), some v1, some v2, o4] ∧ EdL H3 wl (es ++ [sm.1, sm.2].take j) ∧
        (j = 1 → hasE ps sm.1 = true ∧ es.contains sm.1 = false) ∧ (j = 2 → hasE ps sm.1 = true ∧ es.contains sm.1 = false ∧ hasE ps sm.2 = true ∧ (es ++ [sm.1]).contains sm.2 = false))
      ⟨s1.trans s2, htup, _, rfl, ⟨evs, s2 _ _ hw, by rw [List.take_zero, List.append_nil]; exact paired_map (fun _ _ z => z.same s2) hes⟩, fun z => (by cases z), fun z => (by cases z)⟩ (fun j σ H3 _ ⟨_, h, _⟩ => SqT.of h) (fun j x σ H3 hj ⟨s3, htp3, o4', eσ, ⟨evs3, hw3, hes3⟩, c1, c2⟩ => ?_) (fun σ H3 ⟨s3, htp3, o4', eσ, hE, c1, c2⟩ => ?_)
    · subst eσ
      have S3 := S.same s3
      obtain ⟨dx3, ei3⟩ := S3.ins
      obtain ⟨e, ee, he, stop, go⟩ : ∃ e : Edge, [sm.1, sm.2][j]? = some e ∧ EdAt H3 x e ∧ ((hasE ps e = false ∨ (es ++ [sm.1, sm.2].take j).contains e = true) → seamsOk ps ss [] = false) ∧
          ((hasE ps e = true ∧ (es ++ [sm.1, sm.2].take j).contains e = false) → (j + 1 = 1 → hasE ps sm.1 = true ∧ es.contains sm.1 = false) ∧ (j + 1 = 2 → hasE ps sm.1 = true ∧ es.contains sm.1 = false ∧ hasE ps sm.2 = true ∧ (es ++ [sm.1]).contains sm.2 = false)) := by
        match j, hj with
        | 0, hj =>
          obtain rfl : v1 = x := by simpa using hj
          refine ⟨sm.1, rfl, h1.same s3, fun z => ?_, fun z => ?_⟩
          · rw [eok]
            rw [List.take_zero, List.append_nil] at z
            rcases z with z | z
            · rw [z]; rfl
            · rw [z]; simp
          · rw [List.take_zero, List.append_nil] at z
            exact ⟨fun _ => z, fun y => (by cases y)⟩
        | 1, hj =>
          obtain rfl : v2 = x := by simpa using hj
          obtain ⟨q1, q2⟩ := c1 rfl
          refine ⟨sm.2, rfl, h2.same s3, fun z => ?_, fun z => ?_⟩
          · rw [eok]
            have z : hasE ps sm.2 = false ∨ (es ++ [sm.1]).contains sm.2 = true := z
            rcases z with z | z
            · rw [z]; simp
            · rw [z]; simp
          · exact ⟨fun y => (by cases y), fun _ => ⟨q1, q2, z⟩⟩
        | j + 2, hj => simp at hj
      have lenE : evs3.length ≤ 20000 := by
        rw [Paired.length hes3, List.length_append, el, List.length_take]
        simp only [List.length_cons, List.length_nil]
        omega
      refine ⟨_, rfl, r, dx3, _, rfl, ei3, rfl, _, rfl, r, pl, sl, vcs, ps, ss, x, e, rfl, S3, he, _, rfl, ?_⟩
      cases hh : hasE ps e with
      | false =>
        refine iteT (iteT ?_)
        have q := k H3 s3
        rw [stop (.inl hh)] at q
        exact q
      | true =>
        refine iteF ⟨_, rfl, _, rfl, edD e, (es ++ [sm.1, sm.2].take j).map edD, dp_ed he, .lst (SqL.of hw3) (dp_all (fun _ _ z => dp_ed z) hes3), rfl, shaped_eds _, _, rfl, ?_⟩
        rw [any_ed]
        cases hc : (es ++ [sm.1, sm.2].take j).contains e with
        | true =>
          refine iteT ?_
          have q := k H3 s3
          rw [stop (.inr hc)] at q
          exact q
        | false =>
          refine iteF ⟨_, rfl, .inl ⟨rfl, _, SqL.of hw3⟩, _, rfl, wl, _, _, rfl, rfl, hw3, by rw [sizeLine_eq]; omega, ?_⟩
          have kp : Kp [wl] H3 (upd H3 wl (.lst (evs3 ++ [x]))) := Kp.put hw3 rfl (List.mem_singleton.mpr rfl)
          have ntp : tp ≠ wl := fun z => nwt z.symm
          obtain ⟨g1, g2⟩ := go ⟨hh, hc⟩
          refine ⟨fun b o hb => ?_, by rw [upd_ne ntp]; exact htp3, _, rfl, ⟨_, upd_same, ?_⟩, g1, g2⟩
          · have : b ≠ wl := fun z => by rw [z, hwH] at hb; cases hb
            rw [upd_ne this]
            exact s3 b o hb
          · rw [List.take_add_one, ee, ← List.append_assoc]
            exact paired_snoc (paired_map (fun _ _ z => z.kp kp) hes3) (he.kp kp)
    · subst eσ
      obtain ⟨q1, q2, q3, q4⟩ := c2 rfl
      rw [q1, q2, q3, q4] at eok
      simp only [Bool.not_false, Bool.and_true, Bool.true_and] at eok
      have S3 := S.same s3
      obtain ⟨dx3, ei3⟩ := S3.ins
      obtain ⟨evs3, hw3, hes3⟩ := hE
      refine ⟨_, rfl, r, dx3, _, rfl, ei3, rfl, _, rfl, _, rfl, r, pl, sl, vcs, ps, ss, v1, sm.1, v2, sm.2, rfl, S3, Fi, h1.same s3, h2.same s3, q1, q3, fun H4 s4 => ⟨_, rfl, ?_⟩⟩
      cases hl : lenOf ps sm.1 == lenOf ps sm.2 with
      | false =>
        rw [hl, Bool.false_and] at eok
        refine iteT ?_
        have q := k H4 (s3.trans s4)
        rw [eok] at q
        exact q
      | true =>
        rw [hl, Bool.true_and] at eok
        refine iteF ⟨s3.trans s4, _, _, _, _, rfl, ⟨evs3, s4 _ _ hw3, paired_map (fun _ _ z => z.same s4) hes3⟩, ?_, ?_⟩
        · rw [List.length_append, el]
          show 2 * i + 2 = _
          omega
        · rw [eok]
          congr 1
          rw [List.append_assoc]
          rfl
  · subst eσ
    rw [lsv, List.drop_length] at eok
    have q := k H' s1
    rw [eok] at q
    exact q
/-! ### point_of_words -/
abbrev txs (ws : List Bytes) : List V := ws.map fun b => V.str (tx b)
variable {fL' fN fT fW fO' fQ : Addr} {dL' dN dT dW dO' dQ : FuncData}
/-- a number or None -/
def NuAt (H : Hp) (v : V) (o : Option Rat) : Prop := match o with
  | some q => Nm H v q
  | none => v = .non
def nuD (o : Option Rat) : PyData := match o with
  | some q => .tuple [.int q.num, .int q.den]
  | none => .none
theorem NuAt.kp {M : List Addr} {H H' : Hp} {v : V} {o : Option Rat} (h : NuAt H v o) (k : Kp M H H') : NuAt H' v o := by
  cases o with
  | none => exact h
  | some q => exact Tw.kp h k
theorem dp_nu {H : Hp} {v : V} {o : Option Rat} (h : NuAt H v o) : Dp K H v (nuD o) := by
  cases o with
  | none =>
    cases (show v = .non from h)
    exact .non
  | some q => exact dp_num h
def spPointW : Sp := fun vs H Q _ => ∃ (l : Addr) (ws : List Bytes), vs = [.ref l] ∧ H l = some (.lst (txs ws)) ∧ (∀ b ∈ ws, Low b ∧ b.length ≤ 5000) ∧ ws.length ≤ 5000 ∧
  (∀ p, pointW ws = some p → ∀ H' v, Same H H' → PtAt H' v p → v ≠ .non → Q v H') ∧ (pointW ws = none → ∀ H', Same H H' → Q .non H')
theorem scPointW : FnScope ["words", "numbers", "word"] ["words"] (defScope S_point_of_words) := ⟨rfl, rfl, rfl, by decide +kernel, rfl, by decide +kernel, by decide +kernel⟩
theorem ok_pointW (T : NumT K mg P base fL' fN fT fW fO' dL' dN dT dW dO') (F : Fn1 K mg "point_of_words" S_point_of_words ["words"] fQ dQ) : FnOk P w K mg base CX0 35 fQ dQ ["words"] spPointW := by
  refine F.F.ok scPointW (fun vs H Q E h => ?_) (fun cdv A outer s H vs Q E hr h => ?_)
  · obtain ⟨l, ws, rfl, _⟩ := h
    rfl
  obtain ⟨l, ws, rfl, hl, hw, h5, good, bad⟩ := h
  refine ⟨_, pss_cons (ps_setLc (i := 1) (own := [("word", 2)]) (g := gName 2) (tt := tYes) (te := tCall spNumOf [] E0 (tCons (tVar 2) tNil)) rfl scPointW.nd rfl rfl (sw_true rfl rfl rfl rfl) (pi_list (pv 0)) (blkOk_by (N := ["words", "numbers", "word"]) (sc := defScope S_point_of_words) (by decide +kernel))
      (fun _ _ _ _ _ => pg_name (i := 2) scPointW.nd rfl (Or.inl rfl)) (fun _ _ _ _ _ => pts_nil) (fun _ _ _ _ _ => pe_call (ok_numOf T) hr rfl T.O.m T.O.F.kp T.O.b .nil pass0 (pa_cons (pv 2) pa_nil)))
    (pss_cons (ps_if (PW.pt (pw_or (pt_cmpR op_ne (pe_callB call_len_seq rfl T.len PySem.boot_len (pa_cons (pv 1) pa_nil)) pe_int (nomark _)) (pw_or1 (pt_cmpR (op_inD (u65 hr)) pe_non (pv 1) (by rfl))))) (pss_one (ps_ret pe_non)) pss_nil)
    (pss_one (ps_ret (pe_tup (pa_cons (pe_ix ix_list (pv 1) pe_int (fun _ _ => rfl)) (pa_cons (pe_ix ix_list (pv 1) pe_int (fun _ _ => rfl)) pa_nil)))))), ?_⟩
  refine ⟨_, rfl, l, rfl, ⟨_, SqL.of hl⟩, fun D2 hD2 => ?_⟩
  have lt : (txs ws).length = ws.length := List.length_map _
  refine lc_list (xs := txs ws) (fun i H' => Same H H' ∧ ∃ ns, H' D2 = some (.lst ns) ∧ Paired (NuAt H') ns ((ws.take i).map readNum)) ⟨same_new hD2 _, [], upd_same, .nil⟩ (fun i H' _ ⟨s1, _⟩ => SqL.of (s1 _ _ hl)) (fun i x H' hi ⟨s1, ns, s2, s3⟩ => ?_) (fun H' ⟨s1, ns, s2, s3⟩ => ?_)
  · have hil : i < ws.length := by rw [← lt]; exact (List.getElem?_eq_some_iff.mp hi).1
    have hw' : ws[i]? = some ws[i] := List.getElem?_eq_getElem hil
    obtain ⟨lo, l5⟩ := hw _ (List.mem_of_getElem? hw')
    rw [List.getElem?_map, hw'] at hi
    obtain rfl : x = V.str (tx ws[i]) := (Option.some.inj hi).symm
    have lns : ns.length ≤ 5000 := by
      rw [Paired.length s3, List.length_map, List.length_take]
      omega
    have fin : ∀ (H3 : Hp) (v : V), Same H' H3 → NuAt H3 v (readNum ws[i]) → ∃ acc, H3 D2 = some (.lst acc) ∧ acc.length < sizeLine ∧ Same H (upd H3 D2 (.lst (acc ++ [v]))) ∧ ∃ ns', upd H3 D2 (.lst (acc ++ [v])) D2 = some (.lst ns') ∧ Paired (NuAt (upd H3 D2 (.lst (acc ++ [v])))) ns' ((ws.take (i + 1)).map readNum) := fun H3 v s4 hn => by
      have hD3 := s4 _ _ s2
      have kp : Kp [D2] H3 (upd H3 D2 (.lst (ns ++ [v]))) := Kp.put hD3 rfl (List.mem_singleton.mpr rfl)
      refine ⟨ns, hD3, by rw [sizeLine_eq]; omega, fun b o hb => ?_, ns ++ [v], upd_same, ?_⟩
      · rw [upd_ne (ne_of_none hb hD2)]
        exact s4 _ _ (s1 b o hb)
      · rw [List.take_add_one, hw', List.map_append]
        exact paired_snoc (paired_map (fun _ _ z => (z.kp (Kp.same (M := []) s4)).kp kp) s3) (hn.kp kp)
    refine ⟨rfl, _, rfl, ws[i], rfl, lo, l5, fun q H3 p hq s4 hp h3 => ?_, fun hn H3 s4 => ?_⟩
    · exact fin H3 (.ref p) s4 (by rw [hq]; exact ⟨p, rfl, h3⟩)
    · exact fin H3 .non s4 (by rw [hn]; rfl)
  · have tk : ws.take (txs ws).length = ws := by rw [lt]; exact List.take_length
    rw [tk] at s3
    have ln : ns.length = ws.length := by rw [Paired.length s3, List.length_map]
    refine ⟨_, rfl, D2, ns, rfl, .inl (SqL.of s2), rfl, _, rfl, ?_⟩
    rw [ln]
    by_cases h2 : ws.length = 2
    · have e2 : (!decide (V.int ((ws.length : Nat) : Int) = V.int 2)) = false := by rw [h2]; rfl
      rw [e2]
      obtain ⟨a, c, rfl⟩ : ∃ a c, ws = [a, c] := by
        match ws, h2 with
        | [a, c], _ => exact ⟨a, c, rfl⟩
      obtain ⟨n1, n2, rfl, z1, z2⟩ : ∃ n1 n2, ns = [n1, n2] ∧ NuAt H' n1 (readNum a) ∧ NuAt H' n2 (readNum c) := by
        cases s3 with
        | cons q1 t1 =>
          cases t1 with
          | cons q2 t2 =>
            cases t2
            exact ⟨_, _, rfl, q1, q2⟩
      have shp : SeqAt.shaped (.list [nuD (readNum a), nuD (readNum c)]) = true := by
        cases readNum a <;> cases readNum c <;> rfl
      refine iteF ⟨_, rfl, .none, [nuD (readNum a), nuD (readNum c)], .non, .lst (SqL.of s2) (.cons (dp_nu z1) (.cons (dp_nu z2) .nil)), rfl, shp, _, rfl, ?_⟩
      have pw : pointW [a, c] = readPoint a c := rfl
      rw [pw] at good bad
      unfold readPoint at good bad
      cases ha : readNum a with
      | none =>
        rw [ha] at bad
        exact iteT (bad rfl _ s1)
      | some x =>
        cases hc : readNum c with
        | none =>
          rw [ha, hc] at bad
          exact iteT (bad rfl _ s1)
        | some y =>
          rw [ha] at z1 good
          rw [hc] at z2 good
          refine iteF ⟨_, rfl, D2, _, 0, n1, rfl, rfl, SqL.of s2, atI_nat (j := 0) rfl, _, rfl, D2, _, 1, n2, rfl, rfl, SqL.of s2, atI_nat (j := 1) rfl, by show 2 ≤ sizeLine; decide, fun p hp => ?_⟩
          exact good (x, y) rfl _ (.ref p) (s1.trans (same_new hp _)) ⟨p, n1, n2, rfl, upd_same, z1.same (same_new hp _), z2.same (same_new hp _)⟩ (fun z => by cases z)
    · have e2 : (!decide (V.int ((ws.length : Nat) : Int) = V.int 2)) = true := by
        have : ¬ V.int ((ws.length : Nat) : Int) = V.int 2 := fun z => h2 (by injection z with z; omega)
        rw [decide_eq_false this]
        rfl
      rw [e2]
      have pn : pointW ws = none := by
        match ws, h2 with
        | [], _ => rfl
        | [_], _ => rfl
        | [_, _], h2 => exact absurd rfl h2
        | _ :: _ :: _ :: _, _ => rfl
      exact iteT (iteT (bad pn _ s1))
end
end SDP
set_option Elab.async false
set_option linter.all false
set_option maxRecDepth 100000
set_option maxHeartbeats 4000000
set_option exponentiation.threshold 100000
/-! # pattern_lines.py: words, lines -/
namespace SDP
open PySem PySem.Spec PyProof.Rows L2 SDX SD TL SR
open SeamNum (Bytes fits FINE Point fitsP)
open SeamPattern (Edge Seam readNum readPoint isDigit natOf readNat isName Making)

theorem paired_unsnoc {α β : Type} {R : α → β → Prop} {b : β} : ∀ {m : List β} {l : List α}, Paired R l (m ++ [b]) → ∃ l0 a, l = l0 ++ [a] ∧ Paired R l0 m ∧ R a b
  | [], _, .cons r .nil => ⟨[], _, rfl, .nil, r⟩
  | x :: m, _, .cons r t => by
    obtain ⟨l0, a, e, p, q⟩ := paired_unsnoc (m := m) t
    exact ⟨_ :: l0, a, by rw [e]; rfl, .cons r p, q⟩
theorem empty_paired {α β : Type} {R : α → β → Prop} {l : List α} {m : List β} (h : Paired R l m) : l.isEmpty = m.isEmpty := by
  cases h <;> rfl
section
variable {P : Program} {w : World} {K : PySem.W.Frag} {mg : Str → Option Value} {base : Heap} {D : PAd}
/-! ### index_of_word, is_piece_name -/
def spIndex : Sp := fun vs H Q _ => ∃ b : Bytes, vs = [.str (tx b)] ∧ Low b ∧ b.length ≤ 5000 ∧ (∀ n, readNat b = some n → Q (.int (trimN n : Nat)) H) ∧ (readNat b = none → Q .non H)
theorem scIndex : FnScope ["word"] ["word"] (defScope S_index_of_word) := ⟨rfl, rfl, rfl, by decide +kernel, rfl, by decide +kernel, by decide +kernel⟩
theorem starts_nought (b : Bytes) : Txt.startswith (tx b) (Str.ofString "0") = decide (b.headD 0 = 48) := by
  have ey : tl (Str.ofString "0") = [48] := by decide +kernel
  cases b with
  | nil => decide +kernel
  | cons c r =>
    unfold Txt.startswith
    rw [PySem.StrLaws.subAt_eq, tx_len]
    have e0 : (tx (c :: r)).cps.toList = c.toNat :: r.map UInt8.toNat := rfl
    have e1 : (Str.ofString "0").cps.toList = [48] := ey
    have e2 : (Str.ofString "0").length = 1 := by decide +kernel
    rw [e0, e1, e2, Bool.eq_iff_iff]
    simp only [List.drop_zero, List.take_succ_cons, List.take_zero, Bool.and_eq_true, decide_eq_true_eq, beq_iff_eq, List.cons.injEq, and_true, List.length_cons, List.headD_cons]
    constructor
    · rintro ⟨_, z⟩
      exact decide_eq_true (UInt8.toNat_inj.mp (show c.toNat = (48 : UInt8).toNat from z))
    · intro z
      rw [of_decide_eq_true z]
      exact ⟨by omega, rfl⟩
theorem cut_three (b : Bytes) : cutS (tx b) none (some 3) = tx (b.take 3) := by
  unfold cutS
  have e1 : HT.sIx (tx b).length 0 none = 0 := rfl
  have e2 : HT.sIx (tx b).length (tx b).length (some 3) = min 3 (tx b).length := HT.sIx_nat ..
  rw [e1, e2, tx_len]
  have e : (tx b).cps.toList = b.map UInt8.toNat := rfl
  rw [e, List.drop_zero, Nat.sub_zero]
  unfold tx
  rw [List.map_take]
  congr 2
  by_cases h : 3 ≤ b.length
  · rw [Nat.min_eq_left h]
  · rw [Nat.min_eq_right (by omega), List.take_of_length_le (by rw [List.length_map]; exact Nat.le_refl _), List.take_of_length_le (by rw [List.length_map]; omega)]
theorem ok_index {f : Addr} {fd : FuncData} (F : Fn1 K mg "index_of_word" S_index_of_word ["word"] f fd) (mi : mg "int" = none) : FnOk P w K mg base CX0 1 f fd ["word"] spIndex := by
  refine F.F.ok scIndex (fun vs H Q E h => ?_) (fun cdv A outer s H vs Q E hr h => ?_)
  · obtain ⟨b, rfl, _⟩ := h
    rfl
  obtain ⟨b, rfl, hl, h5, k1, k2⟩ := h
  refine ⟨_, pss_cons (ps_if (PW.pt (pw_or (pt_not (pt_val (pe_bm0 PySem.F.plainAttrs_str PySem.F.slot_str_isdigit PySem.F.type_str_isdigit mt_isdigit (pv 0))))
      (pw_or1 (PW.pt (pw_and (pt_cmpR op_ne (pv 0) pe_str (by rfl)) (pw_and1 (pt_val (pe_bm PySem.F.plainAttrs_str PySem.F.slot_str_startswith PySem.F.type_str_startswith mt_startswith (pv 0) (pa_cons pe_str pa_nil))))))))) (pss_one (ps_ret pe_non)) pss_nil)
    (pss_one (ps_ret (pe_callTy call_int_str rfl mi (by decide +kernel) (pa_cons (pe_slice sl_str (pv 0) po_none (po_some pe_int)) pa_nil)))), ?_⟩
  refine ⟨_, rfl, rfl, _, rfl, rfl, trivial, _, rfl, ?_⟩
  rw [isdigit_tx hl]
  cases hx : (!b.isEmpty && b.all isDigit) with
  | false =>
    refine iteT (iteT (k2 (readNat_no ?_)))
    rintro ⟨z1, z2, _⟩
    rw [List.all_eq_true.mpr z2] at hx
    cases b with
    | nil => exact z1 rfl
    | cons c r => cases hx
  | true =>
    rw [Bool.and_eq_true] at hx
    have hne : b ≠ [] := fun z => by rw [z] at hx; exact absurd hx.1 (by decide)
    have hd := List.all_eq_true.mp hx.2
    have e48 : Str.ofString "0" = tx [48] := by decide +kernel
    refine iteF ⟨_, rfl, rfl, _, rfl, ?_⟩
    rw [e48, dec_str]
    have go : (b = [48] ∨ b.headD 0 ≠ 48) → Q (.int (natOf (b.take 3) : Nat)) H := fun c => by
      have cn : Canon b := ⟨hne, hd, c⟩
      have e := readNat_yes cn
      have q := k1 _ e
      rw [← trim_word e] at q
      exact q
    have dt : ∀ c ∈ b.take 3, isDigit c = true := fun c hc => hd c (List.mem_of_mem_take hc)
    have nt : b.take 3 ≠ [] := fun z => by
      cases b with
      | nil => exact hne rfl
      | cons c r => cases z
    have lt : (b.take 3).length ≤ 3 := by rw [List.length_take]; omega
    by_cases hb : b = [48]
    · rw [decide_eq_true hb]
      refine iteF (iteF ⟨_, rfl, _, rfl, _, rfl, txt_line h5, _, _, rfl, ?_, ?_, go (.inl hb)⟩)
      · rw [cut_three]
        exact int_bt dt nt (by omega)
      · rw [cut_three, tx_len]
        omega
    · rw [decide_eq_false hb]
      refine iteT ⟨_, rfl, rfl, _, _, rfl, rfl, _, rfl, ?_⟩
      rw [← e48, starts_nought]
      by_cases h48 : b.headD 0 = 48
      · rw [decide_eq_true h48]
        refine iteT (k2 (readNat_no ?_))
        rintro ⟨_, _, z⟩
        rcases z with z | z
        · exact hb z
        · exact z h48
      · rw [decide_eq_false h48]
        refine iteF ⟨_, rfl, _, rfl, _, rfl, txt_line h5, _, _, rfl, ?_, ?_, go (.inr h48)⟩
        · rw [cut_three]
          exact int_bt dt nt (by omega)
        · rw [cut_three, tx_len]
          omega
def spIsName : Sp := fun vs H Q _ => ∃ b : Bytes, vs = [.str (tx b)] ∧ Low b ∧ b.length ≤ 5000 ∧ Q (.bl (isName b)) H
theorem scIsName : FnScope ["word"] ["word"] (defScope S_is_piece_name) := ⟨rfl, rfl, rfl, by decide +kernel, rfl, by decide +kernel, by decide +kernel⟩
theorem alnum_goes : ∀ c : UInt8, SeamText.goesOn c = alnumB c := all_u8 (p := fun c => SeamText.goesOn c = alnumB c) (by decide +kernel)
theorem ok_isName {f : Addr} {fd : FuncData} (F : Fn1 K mg "is_piece_name" S_is_piece_name ["word"] f fd) (ml : mg "len" = none) (LN : Gi mg "LONGEST_NAME" 16) : FnOk P w K mg base CX0 1 f fd ["word"] spIsName := by
  refine F.F.ok scIsName (fun vs H Q E h => ?_) (fun cdv A outer s H vs Q E hr h => ?_)
  · obtain ⟨b, rfl, _⟩ := h
    rfl
  obtain ⟨b, rfl, hl, h5, k⟩ := h
  refine ⟨_, pss_one (ps_ret (pe_and (pe_bm0 PySem.F.plainAttrs_str PySem.F.slot_str_isalnum PySem.F.type_str_isalnum mt_isalnum (pv 0)) (pe_one (pe_cmpR op_le (pe_callB call_len_str rfl ml PySem.boot_len (pa_cons (pv 0) pa_nil)) (pe_gi rfl LN) (nomark _))))), ?_⟩
  refine ⟨_, rfl, rfl, _, rfl, rfl, trivial, _, rfl, ?_⟩
  rw [isalnum_tx hl]
  rw [isName_is] at k
  have e : b.all SeamText.goesOn = b.all alnumB := by
    congr 1
    funext c
    exact alnum_goes c
  rw [e]
  cases h1 : b.isEmpty with
  | true =>
    rw [h1] at k
    exact iteF k
  | false =>
    rw [h1] at k
    cases h2 : b.all alnumB with
    | false =>
      rw [h2] at k
      refine iteF ?_
      rw [Bool.and_false] at k
      exact k
    | true =>
      rw [h2] at k
      refine iteT ⟨_, rfl, _, rfl, txt_line h5, _, _, rfl, rfl, ?_⟩
      show Q (.bl (decide (((tx b).length : Int) ≤ 16))) H
      have e3 : decide (((tx b).length : Int) ≤ 16) = decide (b.length ≤ 16) := by
        rw [tx_len, decide_eq_decide]
        omega
      rw [e3]
      have k' : Q (.bl (true && (decide (b.length ≤ 16) && true))) H := k
      rw [Bool.true_and, Bool.and_true] at k'
      exact k'
/-! ### last_is_whole -/
structure WholeT (K : PySem.W.Frag) (mg : Str → Option Value) (D : PAd) (fW : Addr) (dW : FuncData) : Prop where
  C : PatC K mg D
  W : Fn1 K mg "last_is_whole" S_last_is_whole ["pattern"] fW dW
  len : mg "len" = none
  FC : Gi mg "FEWEST_CORNERS" 3
variable {fW : Addr} {dW : FuncData}
def enoughP (ps : List SeamPattern.Piece) : Bool := match ps.getLast? with
  | some p => decide (3 ≤ p.row.length)
  | none => false
def spWholeP (D : PAd) : Sp := fun vs H Q _ => ∃ r pl sl vcs ps ss, vs = [.ref r] ∧ PatS D.CT D.CP H r pl sl vcs ps ss ∧ ∀ H', Same H H' → Q (.bl (enoughP ps)) H'
theorem scWholeP : FnScope ["pattern"] ["pattern"] (defScope S_last_is_whole) := ⟨rfl, rfl, rfl, by decide +kernel, rfl, by decide +kernel, by decide +kernel⟩
theorem last_of {α : Type} {l : List α} (h : l ≠ []) : ∃ l0 a, l = l0 ++ [a] := ⟨l.dropLast, l.getLast h, (List.dropLast_concat_getLast h).symm⟩
/-- the last piece -/
theorem pat_last {CT CP : Addr} {H : Hp} {r pl sl : Addr} {vcs : List (V × Addr)} {ps : List SeamPattern.Piece} {ss : List Seam} (h : PatS CT CP H r pl sl vcs ps ss) (n : ps ≠ []) :
    ∃ vcs0 v cl ps0 p, vcs = vcs0 ++ [(v, cl)] ∧ ps = ps0 ++ [p] ∧ ps.getLast? = some p ∧ Paired (fun vc pc => PcAt CP H vc.1 vc.2 pc) vcs0 ps0 ∧ PcAt CP H v cl p := by
  obtain ⟨ps0, p, e⟩ := last_of n
  subst e
  obtain ⟨l0, a, e, q1, q2⟩ := paired_unsnoc h.all
  exact ⟨l0, a.1, a.2, ps0, p, e, rfl, by simp, q1, q2⟩
theorem ok_wholeP (T : WholeT K mg D fW dW) : FnOk P w K mg base CX0 1 fW dW ["pattern"] (spWholeP D) := by
  refine T.W.F.ok scWholeP (fun vs H Q E h => ?_) (fun cdv A outer s H vs Q E hr h => ?_)
  · obtain ⟨r, pl, sl, vcs, ps, ss, rfl, _⟩ := h
    rfl
  obtain ⟨r, pl, sl, vcs, ps, ss, rfl, S, k⟩ := h
  refine ⟨_, pss_one (ps_ret (pe_and (pe_cmpR (op_neNil hr.units) (pe_fld (pv 0) rfl) (pe_lst pa_nil) (nomark _))
    (pe_one (pe_cmpR op_ge (pe_callB call_len_seq rfl T.len PySem.boot_len (pa_cons (pe_fld (pe_ix ix_list (pe_fld (pv 0) rfl) (pe_un un_neg pe_int) (fun _ _ => rfl)) rfl) pa_nil)) (pe_gi rfl T.FC) (nomark _))))), ?_⟩
  obtain ⟨dx, ei⟩ := S.ins
  refine ⟨_, rfl, r, D.CT, dx, _, _, rfl, ei, T.C.clT, T.C.nTp, rfl, by show 0 ≤ sizeLine; decide, fun q hq => ?_⟩
  have s1 : Same H (upd H q (.lst [])) := same_new hq _
  have hq1 : (upd H q (.lst [])) q = some (.lst []) := upd_same
  generalize upd H q (.lst []) = H1 at s1 hq1 ⊢
  have S1 := S.same s1
  obtain ⟨dx1, ei1⟩ := S1.ins
  refine ⟨pl, q, _, rfl, rfl, SqL.of S1.pcs, SqL.of hq1, ?_⟩
  have ee : (vcs.map Prod.fst).isEmpty = ps.isEmpty := by rw [List.isEmpty_map]; exact empty_paired S.all
  rw [ee]
  by_cases hn : ps = []
  · subst hn
    exact ⟨_, rfl, iteF (k _ s1)⟩
  · have e1 : (!ps.isEmpty) = true := by cases ps with
      | nil => exact absurd rfl hn
      | cons _ _ => rfl
    rw [e1]
    obtain ⟨vcs0, v, cl, ps0, p, e2, e3, e4, q1, b, dx2, g, rfl, eb, hg, cvs, hcl, hrow⟩ := pat_last S1 hn
    have em : vcs.map Prod.fst = vcs0.map Prod.fst ++ [V.ref b] := by rw [e2, List.map_append]; rfl
    refine ⟨_, rfl, iteT ⟨_, rfl, r, D.CT, dx1, _, _, rfl, ei1, T.C.clT, T.C.nTp, rfl, 1, rfl, pl, _, (-1 : Int), .ref b, rfl, rfl, SqL.of S1.pcs, by rw [em]; exact atI_last _ _, b, D.CP, dx2, _, _, rfl, eb, T.C.clP, T.C.nPc, rfl, cl, _, rfl, .inl (SqL.of hcl), _, _, rfl, rfl, ?_⟩⟩
    show Q (.bl (decide ((3 : Int) ≤ (cvs.length : Int)))) H1
    have e5 : decide ((3 : Int) ≤ (cvs.length : Int)) = enoughP ps := by
      unfold enoughP
      rw [e4, Paired.length hrow, decide_eq_decide]
      omega
    rw [e5]
    exact k _ s1
end
end SDP
set_option Elab.async false
set_option linter.all false
set_option maxRecDepth 100000
set_option maxHeartbeats 4000000
set_option exponentiation.threshold 100000
/-! # pattern_lines.py: what a line adds -/
namespace SDP
open PySem PySem.Spec PyProof.Rows L2 SDX SD TL SR
open SeamNum (Bytes fits FINE Point fitsP)
open SeamPattern (Edge Seam readNum readPoint isDigit natOf readNat isName Making)

structure AddF where
  fL : Addr
  dL : FuncData
  fN : Addr
  dN : FuncData
  fT : Addr
  dT : FuncData
  fW : Addr
  dW : FuncData
  fO : Addr
  dO : FuncData
  fQ : Addr
  dQ : FuncData
  fE : Addr
  dE : FuncData
  fX : Addr
  dX : FuncData
  fI : Addr
  dI : FuncData
  fA : Addr
  dA : FuncData
  fC : Addr
  dC : FuncData
  fS : Addr
  dS : FuncData
  fY : Addr
  dY : FuncData
structure AddT (K : PySem.W.Frag) (mg : Str → Option Value) (P : Program) (base : Heap) (D : PAd) (Z : AddF) : Prop where
  W : WholeT K mg D Z.fE Z.dE
  N : NumT K mg P base Z.fL Z.fN Z.fT Z.fW Z.fO Z.dL Z.dN Z.dT Z.dW Z.dO
  Q : Fn1 K mg "point_of_words" S_point_of_words ["words"] Z.fQ Z.dQ
  X : Fn1 K mg "index_of_word" S_index_of_word ["word"] Z.fX Z.dX
  I : Fn1 K mg "is_piece_name" S_is_piece_name ["word"] Z.fI Z.dI
  AP : Fn1 K mg "add_piece" S_add_piece ["pattern", "words"] Z.fA Z.dA
  AC : Fn1 K mg "add_corner" S_add_corner ["pattern", "words"] Z.fC Z.dC
  AS : Fn1 K mg "add_seam" S_add_seam ["pattern", "words"] Z.fS Z.dS
  AL : Fn1 K mg "add_line" S_add_line ["pattern", "words"] Z.fY Z.dY
  LN : Gi mg "LONGEST_NAME" 16
  MP : Gi mg "MOST_PIECES" 8
  MC : Gi mg "MOST_CORNERS" 16
/-- what a function that adds has before it -/
structure AddW (D : PAd) (H : Hp) (r l pl sl : Addr) (vcs : List (V × Addr)) (ws : List Bytes) (m : Making) : Prop where
  words : H l = some (.lst (txs ws))
  low : ∀ b ∈ ws, Low b ∧ b.length ≤ 5000
  few : ws.length ≤ 5000
  pat : PatS D.CT D.CP H r pl sl vcs m.pieces (m.seams.map trimS)
  made : SR.Made m
  on_ : m.ended = false
  seams : m.seams.length ≤ 5000
def Grown (D : PAd) (H H' : Hp) (r pl sl : Addr) (vcs : List (V × Addr)) (k : Making) : Prop := ∃ vcs', Kp (own pl sl vcs) H H' ∧ PatS D.CT D.CP H' r pl sl vcs' k.pieces (k.seams.map trimS) ∧ ∀ x ∈ own pl sl vcs', x ∈ own pl sl vcs ∨ H x = none
def spAdd (D : PAd) (lw : List Bytes → Option SeamPattern.Line) (ne : Bool := false) : Sp := fun vs H Q _ => ∃ r l pl sl vcs ws m, vs = [.ref r, .ref l] ∧ AddW D H r l pl sl vcs ws m ∧ (ne = true → ws ≠ []) ∧
  (∀ k, (lw ws).bind m.next = some k → ∀ H', Grown D H H' r pl sl vcs k → Q (.bl true) H') ∧ ((lw ws).bind m.next = none → ∀ H', Same H H' → Q (.bl false) H')
theorem enough_is (m : Making) : m.enough = enoughP m.pieces := rfl
theorem cut_tail (ws : List Bytes) : cutV (txs ws) (some 1) none = txs ws.tail := by
  unfold cutV
  have e1 : HT.sIx (txs ws).length 0 (some 1) = min 1 (txs ws).length := by
    have z := HT.sIx_nat (txs ws).length 0 1
    rw [Nat.min_comm] at z ⊢
    first | exact z | (rw [Nat.min_comm]; exact z)
  have e2 : HT.sIx (txs ws).length (txs ws).length none = (txs ws).length := rfl
  rw [e1, e2]
  cases ws with
  | nil => rfl
  | cons a r =>
    have e3 : (txs (a :: r)).length = r.length + 1 := by simp [txs]
    have e4 : min 1 (txs (a :: r)).length = 1 := by omega
    rw [e4]
    show ((V.str (tx a) :: txs r).drop 1).take _ = txs r
    rw [List.drop_one, List.tail_cons, List.take_of_length_le]
    rw [e3]
    show (txs r).length ≤ _
    simp [txs]
theorem tail_low {ws : List Bytes} (h : ∀ b ∈ ws, Low b ∧ b.length ≤ 5000) : ∀ b ∈ ws.tail, Low b ∧ b.length ≤ 5000 := fun b hb => h b (List.mem_of_mem_tail hb)
theorem grown_pat {D : PAd} {H H1 H2 : Hp} {r pl sl : Addr} {vcs : List (V × Addr)} {k : Making} (s : Same H H1) (g : Grown D H1 H2 r pl sl vcs k) : Grown D H H2 r pl sl vcs k := by
  obtain ⟨vcs', k1, k2, k3⟩ := g
  exact ⟨vcs', (Kp.same s).trans k1, k2, fun x hx => (k3 x hx).imp id fun z => s.free z⟩
section
variable {P : Program} {w : World} {K : PySem.W.Frag} {mg : Str → Option Value} {base : Heap} {D : PAd} {A : AddF}
theorem paired_map2 {α β : Type} {R S : α → β → Prop} : ∀ {l : List α} {m : List β}, (∀ a b, a ∈ l → R a b → S a b) → Paired R l m → Paired S l m
  | _, _, _, .nil => .nil
  | _, _, f, .cons x t => .cons (f _ _ (List.mem_cons_self ..) x) (paired_map2 (fun a b h => f a b (List.mem_cons_of_mem _ h)) t)
theorem txs_len (ws : List Bytes) : (txs ws).length = ws.length := List.length_map _
theorem dec_3 (n : Nat) : decide (V.int (n : Int) = V.int 3) = decide (n = 3) := dec_nat n 3
theorem dec_4 (n : Nat) : decide (V.int (n : Int) = V.int 4) = decide (n = 4) := dec_nat n 4
theorem dec_8 (n : Nat) : decide (V.int (n : Int) = V.int 8) = decide (n = 8) := dec_nat n 8
theorem dec_16 (n : Nat) : decide (V.int (n : Int) = V.int 16) = decide (n = 16) := dec_nat n 16
theorem bne_if (p : Bool) : ((!p) = true) = (p = false) := by cases p <;> simp
theorem pat_empty {CT CP : Addr} {H : Hp} {r pl sl : Addr} {vcs : List (V × Addr)} {ps : List SeamPattern.Piece} {ss : List Seam} (h : PatS CT CP H r pl sl vcs ps ss) : (vcs.map Prod.fst).isEmpty = ps.isEmpty := by
  rw [List.isEmpty_map]
  exact empty_paired h.all
/-! ### add_piece -/
theorem scAddP : FnScope ["pattern", "words", "grain"] ["pattern", "words"] (defScope S_add_piece) := ⟨rfl, rfl, rfl, by decide +kernel, rfl, by decide +kernel, by decide +kernel⟩
theorem pat_alloc {CT CP : Addr} {H : Hp} {r pl sl : Addr} {vcs : List (V × Addr)} {ps : List SeamPattern.Piece} {ss : List Seam} (h : PatS CT CP H r pl sl vcs ps ss) : ∀ x ∈ vcs.map Prod.snd, H x ≠ none := by
  have go : ∀ {vcs : List (V × Addr)} {ps : List SeamPattern.Piece}, Paired (fun vc pc => PcAt CP H vc.1 vc.2 pc) vcs ps → ∀ x ∈ vcs.map Prod.snd, H x ≠ none := by
    intro vcs ps q
    induction q with
    | nil => intro x hx; cases hx
    | cons r t ih =>
      intro x hx
      rcases List.mem_cons.mp hx with e | m
      · obtain ⟨a, dx, g, _, _, _, vs, hc, _⟩ := r
        rw [e]
        intro z
        rw [z] at hc
        cases hc
      · exact ih x m
  exact go h.all
theorem ok_addP (T : AddT K mg P base D A) : FnOk P w K mg base CX0 36 A.fA A.dA ["pattern", "words"] (spAdd D pieceW) := by
  refine T.AP.F.ok scAddP (fun vs H Q E h => ?_) (fun cdv A0 outer s H vs Q E hr h => ?_)
  · obtain ⟨r, l, pl, sl, vcs, ws, m, rfl, _⟩ := h
    rfl
  obtain ⟨r, l, pl, sl, vcs, ws, m, rfl, ⟨hl, hlow, few, S, M, on_, h5⟩, wne, good, bad⟩ := h
  have hr1 : Room 1 _ := hr.mono (by decide)
  have hr2 : Room 2 _ := hr.mono (by decide)
  have ml := T.W.len
  have C := T.W.C
  have okI := ok_isName (P := P) (w := w) (base := base) T.I ml T.LN
  have okW := ok_wholeP (P := P) (w := w) (base := base) T.W
  refine ⟨_, pss_cons (ps_if (PW.pt (pw_or (pt_cmpR op_ne (pe_callB call_len_seq rfl ml PySem.boot_len (pa_cons (pv 1) pa_nil)) pe_int (nomark _)) (pw_or1 (pt_not (pt_val (pe_call okI hr1 rfl T.I.m T.I.F.kp T.I.b .nil pass0 (pa_cons (pe_ix ix_list (pv 1) pe_int (fun _ _ => rfl)) pa_nil))))))) (pss_one (ps_ret pe_bl)) pss_nil)
    (pss_cons (ps_set (i := 2) scAddP.nd rfl (Or.inl rfl) (pe_call (ok_pointW T.N T.Q) hr rfl T.Q.m T.Q.F.kp T.Q.b .nil pass0 (pa_cons (pe_slice sl_list (pv 1) (po_some pe_int) po_none) pa_nil)))
    (pss_cons (ps_if (PW.pt (pw_or (pt_cmpR op_isN (pv 2) pe_non (nomark _)) (pw_or (pt_cmpR (op_neNil hr.units) (pe_fld (pv 0) rfl) (pe_lst pa_nil) (nomark _)) (pw_or1 (pt_cmpR op_eq (pe_callB call_len_seq rfl ml PySem.boot_len (pa_cons (pe_fld (pv 0) rfl) pa_nil)) (pe_gi rfl T.MP) (nomark _)))))) (pss_one (ps_ret pe_bl)) pss_nil)
    (pss_cons (ps_if (PW.pt (pw_and (pt_cmpR (op_neNil hr.units) (pe_fld (pv 0) rfl) (pe_lst pa_nil) (nomark _)) (pw_and1 (pt_not (pt_val (pe_call okW hr1 rfl T.W.W.m T.W.W.F.kp T.W.W.b .nil pass0 (pa_cons (pv 0) pa_nil))))))) (pss_one (ps_ret pe_bl)) pss_nil)
    (pss_cons (ps_expr (pe_bm PySem.F.plainAttrs_list PySem.F.slot_list_append PySem.F.type_list_append mt_append (pe_fld (pv 0) rfl) (pa_cons (pe_make C.madeP (ok_PI C) hr2 rfl C.gP C.IP.b .nil pass0 (pa_cons (pe_ix ix_list (pv 1) pe_int (fun _ _ => rfl)) (pa_cons (pv 2) (pa_cons (pe_lst pa_nil) pa_nil)))) pa_nil)))
    (pss_one (ps_ret pe_bl)))))), ?_⟩
  obtain ⟨dx, ei⟩ := S.ins
  obtain ⟨svs, hsv, hps⟩ := S.sms
  have few8 : m.pieces.length ≤ 8 := M.few
  refine ⟨_, rfl, l, _, rfl, .inl (SqL.of hl), rfl, ?_⟩
  rw [txs_len, dec_3]
  by_cases h3 : ws.length = 3
  case neg =>
    rw [decide_eq_false h3]
    refine ⟨_, rfl, iteT (iteT (bad ?_ _ (Same.refl _)))⟩
    have : pieceW ws = none := by
      match ws, h3 with
      | [], _ => rfl
      | [_], _ => rfl
      | [_, _], _ => rfl
      | [_, _, _], h => exact absurd rfl h
      | _ :: _ :: _ :: _ :: _, _ => rfl
    rw [this]
    rfl
  rw [decide_eq_true h3]
  obtain ⟨n, a, c, rfl⟩ : ∃ n a c, ws = [n, a, c] := by
    match ws, h3 with
    | [n, a, c], _ => exact ⟨n, a, c, rfl⟩
  obtain ⟨ln, l5⟩ := hlow n (by simp)
  have pw : pieceW [n, a, c] = if isName n = true then (readPoint a c).map fun (g : Point) => SeamPattern.Line.piece n g else none := rfl
  rw [pw] at good bad
  refine ⟨_, rfl, iteF ⟨_, rfl, l, _, 0, .str (tx n), rfl, rfl, SqL.of hl, atI_nat (j := 0) rfl, n, rfl, ln, l5, _, rfl, ?_⟩⟩
  cases hn : isName n with
  | false =>
    rw [hn] at bad
    exact iteT (bad rfl _ (Same.refl _))
  | true =>
    rw [hn, if_pos rfl] at good bad
    refine iteF ⟨_, rfl, _, rfl, l, _, rfl, SqL.of hl, fun tp htp => ?_⟩
    rw [show cutV (txs [n, a, c]) (some 1) none = txs [a, c] from cut_tail _]
    have s1 : Same H (upd H tp (.lst (txs [a, c]))) := same_new htp _
    have ht : (upd H tp (.lst (txs [a, c]))) tp = some (.lst (txs [a, c])) := upd_same
    generalize upd H tp (.lst (txs [a, c])) = H1 at s1 ht ⊢
    refine ⟨tp, [a, c], rfl, ht, fun b hb => hlow b (List.mem_cons_of_mem _ hb), by show 2 ≤ 5000; decide, fun p hp H2 v s2 hv vn => ?_, fun hp H2 s2 => ?_⟩
    case refine_2 =>
      have hp' : readPoint a c = none := hp
      rw [hp'] at bad
      exact ⟨_, rfl, rfl, _, rfl, iteT (iteT (bad rfl _ (s1.trans s2)))⟩
    have hp' : readPoint a c = some p := hp
    rw [hp'] at good bad
    have good : ∀ k, m.next (.piece n p) = some k → ∀ H', Grown D H H' r pl sl vcs k → Q (.bl true) H' := good
    have bad : m.next (.piece n p) = none → ∀ H', Same H H' → Q (.bl false) H' := bad
    have nx : m.next (.piece n p) = if (m.pieces.isEmpty = true ∨ m.enough = true) ∧ m.seams.isEmpty = true ∧ m.pieces.length < 8 then some { m with pieces := m.pieces ++ [⟨n, [], p⟩] } else none := by
      show (if m.ended = true then none else _) = _
      rw [on_, if_neg (by decide)]
      rfl
    rw [nx] at good bad
    have s12 := s1.trans s2
    have vd : decide (v = V.non) = false := decide_eq_false vn
    refine ⟨_, rfl, rfl, _, rfl, ?_⟩
    rw [vd]
    refine iteF ⟨_, rfl, r, D.CT, dx, _, _, rfl, s12 _ _ ei, C.clT, C.nTs, rfl, by show 0 ≤ sizeLine; decide, fun q hq => ?_⟩
    have s3 : Same H2 (upd H2 q (.lst [])) := same_new hq _
    have hq3 : (upd H2 q (.lst [])) q = some (.lst []) := upd_same
    generalize upd H2 q (.lst []) = H3 at s3 hq3 ⊢
    have s13 := s12.trans s3
    refine ⟨sl, q, _, rfl, rfl, SqL.of (s13 _ _ hsv), SqL.of hq3, _, rfl, ?_⟩
    have es : svs.isEmpty = m.seams.isEmpty := by rw [empty_paired hps, List.isEmpty_map]
    rw [es]
    cases hs : m.seams.isEmpty with
    | false =>
      refine iteT (iteT (bad ?_ _ s13))
      rw [if_neg]
      rintro ⟨_, z, _⟩
      rw [hs] at z
      cases z
    | true =>
      refine iteF ⟨_, rfl, r, D.CT, dx, _, _, rfl, s13 _ _ ei, C.clT, C.nTp, rfl, pl, _, rfl, .inl (SqL.of (s13 _ _ S.pcs)), rfl, ?_⟩
      rw [pat_len S, dec_8]
      by_cases h8 : m.pieces.length = 8
      · rw [decide_eq_true h8]
        refine ⟨_, rfl, iteT (bad ?_ _ s13)⟩
        rw [if_neg]
        rintro ⟨_, _, z⟩
        omega
      · rw [decide_eq_false h8]
        refine ⟨_, rfl, iteF ⟨_, rfl, r, D.CT, dx, _, _, rfl, s13 _ _ ei, C.clT, C.nTp, rfl, by show 0 ≤ sizeLine; decide, fun q2 hq2 => ?_⟩⟩
        have s4 : Same H3 (upd H3 q2 (.lst [])) := same_new hq2 _
        have hq4 : (upd H3 q2 (.lst [])) q2 = some (.lst []) := upd_same
        generalize upd H3 q2 (.lst []) = H4 at s4 hq4 ⊢
        have s14 := s13.trans s4
        refine ⟨pl, q2, _, rfl, rfl, SqL.of (s14 _ _ S.pcs), SqL.of hq4, _, rfl, ?_⟩
        rw [pat_empty S]
        have hgt : m.pieces.length < 8 := by omega
        cases he : m.pieces.isEmpty with
        | true =>
          have cond : (m.pieces.isEmpty = true ∨ m.enough = true) ∧ m.seams.isEmpty = true ∧ m.pieces.length < 8 := ⟨.inl he, hs, hgt⟩
          rw [if_pos cond] at good
          refine iteF (iteF ?_)
          have s5 := s14
          have hv5 : PtAt H4 v p := hv.same (s3.trans s4)
          generalize H4 = H5 at s5 hv5 ⊢
          have hp5 := s5 _ _ S.pcs
          have S5 := S.same s5
          refine ⟨_, rfl, r, D.CT, dx, _, _, rfl, s5 _ _ ei, C.clT, C.nTp, rfl, .inl ⟨rfl, _, SqL.of hp5⟩, _, rfl, l, _, 0, .str (tx n), rfl, rfl, SqL.of (s5 _ _ hl), atI_nat (j := 0) rfl, _, rfl, by show 0 ≤ sizeLine; decide, fun cl hcl => ?_⟩
          have s6 : Same H5 (upd H5 cl (.lst [])) := same_new hcl _
          have hcl6 : (upd H5 cl (.lst [])) cl = some (.lst []) := upd_same
          generalize upd H5 cl (.lst []) = H6 at s6 hcl6 ⊢
          intro x dx' hx hdx hne
          refine ⟨x, dx', .str (tx n), v, .ref cl, rfl, upd_same, fun H7 keep hx7 => ⟨rfl, ?_⟩⟩
          have s67 : Same H6 H7 := fun b o hb => keep b o (ne_of_none hb hx) (by rw [upd_ne (ne_of_none hb hx), upd_ne (ne_of_none hb hdx)]; exact hb)
          have s57 := s6.trans s67
          have hp7 := s57 _ _ hp5
          refine ⟨pl, _, _, rfl, rfl, hp7, by rw [pat_len S, sizeLine_eq]; omega, ?_⟩
          have hx5 : H5 x = none := s6.free hx
          have npx : x ≠ pl := fun z => by rw [z, hp5] at hx5; cases hx5
          have npc : cl ≠ pl := fun z => by rw [z, hp5] at hcl; cases hcl
          have kp : Kp [pl] H7 (upd H7 pl (.lst (vcs.map Prod.fst ++ [.ref x]))) := Kp.put hp7 rfl (List.mem_singleton.mpr rfl)
          have kpH : Kp [pl] H (upd H7 pl (.lst (vcs.map Prod.fst ++ [.ref x]))) := (Kp.same (s5.trans s57)).trans kp
          have clH : H cl = none := s5.free hcl
          have ncl : ∀ y ∈ vcs.map Prod.snd, y ≠ cl := fun y hy z => pat_alloc S y hy (by rw [z]; exact clH)
          have nsl : sl ≠ cl := fun z => by rw [← z, hsv] at clH; cases clH
          refine good _ rfl _ ⟨vcs ++ [(.ref x, cl)], kpH.mono (by simp), ⟨⟨dx, ?_⟩, ?_, S.ne, ?_, ?_, ?_, ?_, svs, ?_, ?_⟩, ?_⟩
          · exact kpH _ _ ei (.inl fun z => by rw [List.mem_singleton.mp z, S.pcs] at ei; cases ei)
          · rw [upd_same, List.map_append]
            rfl
          · rw [List.map_append, List.nodup_append]
            exact ⟨S.nd, by simp, fun a ha b hb e => ncl a ha (by rw [e]; exact List.mem_singleton.mp hb)⟩
          · rw [List.map_append, List.mem_append]
            rintro (z | z)
            · exact S.np z
            · exact npc (List.mem_singleton.mp z).symm
          · rw [List.map_append, List.mem_append]
            rintro (z | z)
            · exact S.ns z
            · exact nsl (List.mem_singleton.mp z)
          · refine paired_snoc (paired_map2 (fun vc pc hm z => z.kp kpH (fun y => S.np (by rw [← List.mem_singleton.mp y]; exact List.mem_map.mpr ⟨vc, hm, rfl⟩)) (fun a ha C' dx' fs z' => by rw [List.mem_singleton.mp ha, S.pcs] at z'; cases z')) S.all) ⟨x, dx', v, rfl, ?_, ?_, [], ?_, .nil⟩
            · rw [upd_ne npx]
              exact hx7
            · exact (hv5.same s57).kp kp
            · rw [upd_ne npc]
              exact s67 _ _ hcl6
          · exact kpH _ _ hsv (.inl fun z => S.ne (List.mem_singleton.mp z).symm)
          · exact paired_map (fun _ _ z => z.kp kpH) hps
          · intro y hy
            simp only [own, List.map_append, List.map_cons, List.map_nil, List.mem_cons, List.mem_append, List.not_mem_nil, or_false] at hy
            rcases hy with z | z | z | z
            · exact .inl (by simp [own, z])
            · exact .inl (by simp [own, z])
            · exact .inl (by simp only [own, List.mem_cons]; exact .inr (.inr z))
            · exact .inr (by rw [z]; exact clH)
        | false =>
          refine iteT ⟨_, rfl, r, pl, sl, vcs, m.pieces, m.seams.map trimS, rfl, S.same s14, fun H5 s45 => ⟨_, rfl, ?_⟩⟩
          have s5 := s14.trans s45
          rw [← enough_is]
          cases hen : m.enough with
          | false =>
            refine iteT (bad ?_ _ s5)
            rw [if_neg]
            rintro ⟨z, _, _⟩
            rcases z with z | z
            · rw [he] at z
              cases z
            · rw [hen] at z
              cases z
          | true =>
            have cond : (m.pieces.isEmpty = true ∨ m.enough = true) ∧ m.seams.isEmpty = true ∧ m.pieces.length < 8 := ⟨.inr hen, hs, hgt⟩
            rw [if_pos cond] at good
            refine iteF ?_
            have hv5 : PtAt H5 v p := hv.same ((s3.trans s4).trans s45)
            have hp5 := s5 _ _ S.pcs
            have S5 := S.same s5
            refine ⟨_, rfl, r, D.CT, dx, _, _, rfl, s5 _ _ ei, C.clT, C.nTp, rfl, .inl ⟨rfl, _, SqL.of hp5⟩, _, rfl, l, _, 0, .str (tx n), rfl, rfl, SqL.of (s5 _ _ hl), atI_nat (j := 0) rfl, _, rfl, by show 0 ≤ sizeLine; decide, fun cl hcl => ?_⟩
            have s6 : Same H5 (upd H5 cl (.lst [])) := same_new hcl _
            have hcl6 : (upd H5 cl (.lst [])) cl = some (.lst []) := upd_same
            generalize upd H5 cl (.lst []) = H6 at s6 hcl6 ⊢
            intro x dx' hx hdx hne
            refine ⟨x, dx', .str (tx n), v, .ref cl, rfl, upd_same, fun H7 keep hx7 => ⟨rfl, ?_⟩⟩
            have s67 : Same H6 H7 := fun b o hb => keep b o (ne_of_none hb hx) (by rw [upd_ne (ne_of_none hb hx), upd_ne (ne_of_none hb hdx)]; exact hb)
            have s57 := s6.trans s67
            have hp7 := s57 _ _ hp5
            refine ⟨pl, _, _, rfl, rfl, hp7, by rw [pat_len S, sizeLine_eq]; omega, ?_⟩
            have hx5 : H5 x = none := s6.free hx
            have npx : x ≠ pl := fun z => by rw [z, hp5] at hx5; cases hx5
            have npc : cl ≠ pl := fun z => by rw [z, hp5] at hcl; cases hcl
            have kp : Kp [pl] H7 (upd H7 pl (.lst (vcs.map Prod.fst ++ [.ref x]))) := Kp.put hp7 rfl (List.mem_singleton.mpr rfl)
            have kpH : Kp [pl] H (upd H7 pl (.lst (vcs.map Prod.fst ++ [.ref x]))) := (Kp.same (s5.trans s57)).trans kp
            have clH : H cl = none := s5.free hcl
            have ncl : ∀ y ∈ vcs.map Prod.snd, y ≠ cl := fun y hy z => pat_alloc S y hy (by rw [z]; exact clH)
            have nsl : sl ≠ cl := fun z => by rw [← z, hsv] at clH; cases clH
            refine good _ rfl _ ⟨vcs ++ [(.ref x, cl)], kpH.mono (by simp), ⟨⟨dx, ?_⟩, ?_, S.ne, ?_, ?_, ?_, ?_, svs, ?_, ?_⟩, ?_⟩
            · exact kpH _ _ ei (.inl fun z => by rw [List.mem_singleton.mp z, S.pcs] at ei; cases ei)
            · rw [upd_same, List.map_append]
              rfl
            · rw [List.map_append, List.nodup_append]
              exact ⟨S.nd, by simp, fun a ha b hb e => ncl a ha (by rw [e]; exact List.mem_singleton.mp hb)⟩
            · rw [List.map_append, List.mem_append]
              rintro (z | z)
              · exact S.np z
              · exact npc (List.mem_singleton.mp z).symm
            · rw [List.map_append, List.mem_append]
              rintro (z | z)
              · exact S.ns z
              · exact nsl (List.mem_singleton.mp z)
            · refine paired_snoc (paired_map2 (fun vc pc hm z => z.kp kpH (fun y => S.np (by rw [← List.mem_singleton.mp y]; exact List.mem_map.mpr ⟨vc, hm, rfl⟩)) (fun a ha C' dx' fs z' => by rw [List.mem_singleton.mp ha, S.pcs] at z'; cases z')) S.all) ⟨x, dx', v, rfl, ?_, ?_, [], ?_, .nil⟩
              · rw [upd_ne npx]
                exact hx7
              · exact (hv5.same s57).kp kp
              · rw [upd_ne npc]
                exact s67 _ _ hcl6
            · exact kpH _ _ hsv (.inl fun z => S.ne (List.mem_singleton.mp z).symm)
            · exact paired_map (fun _ _ z => z.kp kpH) hps
            · intro y hy
              simp only [own, List.map_append, List.map_cons, List.map_nil, List.mem_cons, List.mem_append, List.not_mem_nil, or_false] at hy
              rcases hy with z | z | z | z
              · exact .inl (by simp [own, z])
              · exact .inl (by simp [own, z])
              · exact .inl (by simp only [own, List.mem_cons]; exact .inr (.inr z))
              · exact .inr (by rw [z]; exact clH)
end
end SDP
set_option Elab.async false
set_option linter.all false
set_option maxRecDepth 100000
set_option maxHeartbeats 4000000
set_option exponentiation.threshold 100000
/-! # pattern_lines.py: corners, seams, a line -/
namespace SDP
open PySem PySem.Spec PyProof.Rows L2 SDX SD TL SR
open SeamNum (Bytes fits FINE Point fitsP ascii)
open SeamPattern (Edge Seam readNum readPoint isDigit natOf readNat isName Making)
section
variable {P : Program} {w : World} {K : PySem.W.Frag} {mg : Str → Option Value} {base : Heap} {D : PAd} {A : AddF}
/-! ### add_corner -/
theorem scAddC : FnScope ["pattern", "words", "corner", "corners"] ["pattern", "words"] (defScope S_add_corner) := ⟨rfl, rfl, rfl, by decide +kernel, rfl, by decide +kernel, by decide +kernel⟩
theorem next_corner (m : Making) (on_ : m.ended = false) (p : Point) {ps0 : List SeamPattern.Piece} {x : SeamPattern.Piece} (e : m.pieces = ps0 ++ [x]) : m.next (.corner p) = if m.seams.isEmpty = true ∧ x.row.length < 16 then some { m with pieces := ps0 ++ [{ x with row := x.row ++ [p] }] } else none := by
  show (if m.ended = true then none else match m.pieces.getLast? with
    | some x => if m.seams.isEmpty = true ∧ x.row.length < 16 then some { m with pieces := m.pieces.dropLast ++ [{ x with row := x.row ++ [p] }] } else none
    | none => none) = _
  rw [on_, if_neg (by decide), e]
  simp
theorem ok_addC (T : AddT K mg P base D A) : FnOk P w K mg base CX0 36 A.fC A.dC ["pattern", "words"] (spAdd D cornerW) := by
  refine T.AC.F.ok scAddC (fun vs H Q E h => ?_) (fun cdv A0 outer s H vs Q E hr h => ?_)
  · obtain ⟨r, l, pl, sl, vcs, ws, m, rfl, _⟩ := h
    rfl
  obtain ⟨r, l, pl, sl, vcs, ws, m, rfl, ⟨hl, hlow, few, S, M, on_, h5⟩, wne, good, bad⟩ := h
  have ml := T.W.len
  have C := T.W.C
  refine ⟨_, pss_cons (ps_set (i := 2) scAddC.nd rfl (Or.inl rfl) (pe_call (ok_pointW T.N T.Q) hr rfl T.Q.m T.Q.F.kp T.Q.b .nil pass0 (pa_cons (pv 1) pa_nil)))
    (pss_cons (ps_if (PW.pt (pw_or (pt_cmpR op_isN (pv 2) pe_non (nomark _)) (pw_or (pt_cmpR (op_eqNil hr.units) (pe_fld (pv 0) rfl) (pe_lst pa_nil) (nomark _)) (pw_or1 (pt_cmpR (op_neNil hr.units) (pe_fld (pv 0) rfl) (pe_lst pa_nil) (nomark _)))))) (pss_one (ps_ret pe_bl)) pss_nil)
    (pss_cons (ps_set (i := 3) scAddC.nd rfl (Or.inl rfl) (pe_fld (pe_ix ix_list (pe_fld (pv 0) rfl) (pe_un un_neg pe_int) (fun _ _ => rfl)) rfl))
    (pss_cons (ps_if (pt_cmpR op_eq (pe_callB call_len_seq rfl ml PySem.boot_len (pa_cons (pv 3) pa_nil)) (pe_gi rfl T.MC) (nomark _)) (pss_one (ps_ret pe_bl)) pss_nil)
    (pss_cons (ps_expr (pe_bm PySem.F.plainAttrs_list PySem.F.slot_list_append PySem.F.type_list_append mt_append (pv 3) (pa_cons (pv 2) pa_nil)))
    (pss_one (ps_ret pe_bl)))))), ?_⟩
  obtain ⟨dx, ei⟩ := S.ins
  obtain ⟨svs, hsv, hps⟩ := S.sms
  refine ⟨_, rfl, l, ws, rfl, hl, hlow, few, fun p hp H2 v s2 hv vn => ?_, fun hp H2 s2 => ?_⟩
  case refine_2 =>
    exact ⟨_, rfl, rfl, _, rfl, iteT (iteT (bad (by show (((pointW ws).map SeamPattern.Line.corner).bind m.next) = none; rw [hp]; rfl) _ s2))⟩
  have good : ∀ k, m.next (.corner p) = some k → ∀ H', Grown D H H' r pl sl vcs k → Q (.bl true) H' := fun k e => good k (by show (((pointW ws).map SeamPattern.Line.corner).bind m.next) = _; rw [hp]; exact e)
  have bad : m.next (.corner p) = none → ∀ H', Same H H' → Q (.bl false) H' := fun e => bad (by show (((pointW ws).map SeamPattern.Line.corner).bind m.next) = _; rw [hp]; exact e)
  have vd : decide (v = V.non) = false := decide_eq_false vn
  refine ⟨_, rfl, rfl, _, rfl, ?_⟩
  rw [vd]
  refine iteF ⟨_, rfl, r, D.CT, dx, _, _, rfl, s2 _ _ ei, C.clT, C.nTp, rfl, by show 0 ≤ sizeLine; decide, fun q hq => ?_⟩
  have s3 : Same H2 (upd H2 q (.lst [])) := same_new hq _
  have hq3 : (upd H2 q (.lst [])) q = some (.lst []) := upd_same
  generalize upd H2 q (.lst []) = H3 at s3 hq3 ⊢
  have s13 := s2.trans s3
  refine ⟨pl, q, _, rfl, rfl, SqL.of (s13 _ _ S.pcs), SqL.of hq3, _, rfl, ?_⟩
  rw [pat_empty S]
  by_cases hn : m.pieces = []
  · have e0 : m.pieces.isEmpty = true := by rw [hn]; rfl
    rw [e0]
    refine iteT (iteT (bad ?_ _ s13))
    show (if m.ended = true then none else match m.pieces.getLast? with
      | some x => _
      | none => none) = none
    rw [on_, if_neg (by decide), hn]
    rfl
  have e0 : m.pieces.isEmpty = false := by
    cases hm : m.pieces with
    | nil => exact absurd hm hn
    | cons _ _ => rfl
  rw [e0]
  obtain ⟨vcs0, vl, cl, ps0, x, e2, e3, e4, q1, hpx⟩ := pat_last S hn
  have nx := next_corner m on_ p e3
  rw [nx] at good bad
  refine iteF ⟨_, rfl, r, D.CT, dx, _, _, rfl, s13 _ _ ei, C.clT, C.nTs, rfl, by show 0 ≤ sizeLine; decide, fun q2 hq2 => ?_⟩
  have s4 : Same H3 (upd H3 q2 (.lst [])) := same_new hq2 _
  have hq4 : (upd H3 q2 (.lst [])) q2 = some (.lst []) := upd_same
  generalize upd H3 q2 (.lst []) = H4 at s4 hq4 ⊢
  have s14 := s13.trans s4
  refine ⟨sl, q2, _, rfl, rfl, SqL.of (s14 _ _ hsv), SqL.of hq4, _, rfl, ?_⟩
  have es : svs.isEmpty = m.seams.isEmpty := by rw [empty_paired hps, List.isEmpty_map]
  rw [es]
  cases hs : m.seams.isEmpty with
  | false =>
    refine iteT (bad ?_ _ s14)
    rw [if_neg]
    rintro ⟨z, _⟩
    rw [hs] at z
    cases z
  | true =>
    obtain ⟨b, dx2, g, rfl, eb, hg, cvs, hcl, hrow⟩ := hpx
    have em : vcs.map Prod.fst = vcs0.map Prod.fst ++ [V.ref b] := by rw [e2, List.map_append]; rfl
    have hcl4 := s14 _ _ hcl
    refine iteF ⟨_, rfl, r, D.CT, dx, _, _, rfl, s14 _ _ ei, C.clT, C.nTp, rfl, 1, rfl, pl, _, (-1 : Int), .ref b, rfl, rfl, SqL.of (s14 _ _ S.pcs), by rw [em]; exact atI_last _ _, b, D.CP, dx2, _, _, rfl, s14 _ _ eb, C.clP, C.nPc, rfl, ?_⟩
    refine ⟨_, rfl, cl, _, rfl, .inl (SqL.of hcl4), rfl, ?_⟩
    rw [Paired.length hrow, dec_16]
    have hx16 : x.row.length ≤ 16 := (M.fine x (by rw [e3]; simp)).2.2.1
    by_cases h16 : x.row.length = 16
    · rw [decide_eq_true h16]
      refine ⟨_, rfl, iteT (bad ?_ _ s14)⟩
      rw [if_neg]
      rintro ⟨_, z⟩
      omega
    · rw [decide_eq_false h16]
      have cond : m.seams.isEmpty = true ∧ x.row.length < 16 := ⟨hs, by omega⟩
      rw [if_pos cond] at good
      refine ⟨_, rfl, iteF ⟨_, rfl, .inl ⟨rfl, _, SqL.of hcl4⟩, _, rfl, cl, _, _, rfl, rfl, hcl4, by rw [Paired.length hrow, sizeLine_eq]; omega, ?_⟩⟩
      have kp : Kp [cl] H4 (upd H4 cl (.lst (cvs ++ [v]))) := Kp.put hcl4 rfl (List.mem_singleton.mpr rfl)
      have kpH : Kp [cl] H (upd H4 cl (.lst (cvs ++ [v]))) := (Kp.same s14).trans kp
      have snd : vcs.map Prod.snd = vcs0.map Prod.snd ++ [cl] := by rw [e2, List.map_append]; rfl
      have inown : cl ∈ own pl sl vcs := by simp [own, snd]
      have nd := S.nd
      have np := S.np
      have ns := S.ns
      rw [snd] at nd np ns
      have ncl : ∀ y ∈ vcs0.map Prod.snd, y ≠ cl := fun y hy z => (List.nodup_append.mp nd).2.2 y hy cl (by simp) z
      have notins : ∀ a ∈ [cl], ∀ C' dx' fs, H a ≠ some (.ins C' dx' fs) := fun a ha C' dx' fs z => by
        rw [List.mem_singleton.mp ha, hcl] at z
        cases z
      refine good _ rfl _ ⟨vcs, kpH.mono (by simp [snd]), ⟨⟨dx, ?_⟩, ?_, S.ne, S.nd, S.np, S.ns, ?_, svs, ?_, ?_⟩, fun y hy => .inl hy⟩
      · exact kpH _ _ ei (.inl fun z => notins r (by rw [List.mem_singleton] at z ⊢; exact z) _ _ _ ei)
      · exact kpH _ _ S.pcs (.inl fun z => np (by rw [List.mem_singleton.mp z]; simp))
      · rw [e2]
        refine paired_snoc (paired_map2 (fun vc pc hm z => z.kp kpH (fun y => ncl vc.2 (List.mem_map.mpr ⟨vc, hm, rfl⟩) (List.mem_singleton.mp y)) notins) q1) ⟨b, dx2, g, rfl, ?_, hg.kp kpH, cvs ++ [v], upd_same, ?_⟩
        · exact kpH _ _ eb (.inl fun z => notins b (by rw [List.mem_singleton] at z ⊢; exact z) _ _ _ eb)
        · exact paired_snoc (paired_map (fun _ _ z => z.kp kpH) hrow) ((hv.same (s3.trans s4)).kp kp)
      · exact kpH _ _ hsv (.inl fun z => ns (by rw [List.mem_singleton.mp z]; simp))
      · exact paired_map (fun _ _ z => z.kp kpH) hps
/-! ### add_seam -/
def IxAt (v : V) (o : Option Nat) : Prop := match o with
  | some n => v = .int (trimN n : Nat)
  | none => v = .non
theorem scAddS : FnScope ["pattern", "words", "numbers", "word"] ["pattern", "words"] (defScope S_add_seam) := ⟨rfl, rfl, rfl, by decide +kernel, rfl, by decide +kernel, by decide +kernel⟩
theorem next_seam (m : Making) (on_ : m.ended = false) (s : Seam) : m.next (.seam s) = if m.enough = true then some { m with seams := m.seams ++ [s] } else none := by
  show (if m.ended = true then none else _) = _
  rw [on_, if_neg (by decide)]
theorem ok_addS (T : AddT K mg P base D A) : FnOk P w K mg base CX0 36 A.fS A.dS ["pattern", "words"] (spAdd D seamW) := by
  refine T.AS.F.ok scAddS (fun vs H Q E h => ?_) (fun cdv A0 outer s H vs Q E hr h => ?_)
  · obtain ⟨r, l, pl, sl, vcs, ws, m, rfl, _⟩ := h
    rfl
  obtain ⟨r, l, pl, sl, vcs, ws, m, rfl, ⟨hl, hlow, few, S, M, on_, h5⟩, wne, good, bad⟩ := h
  have hr1 : Room 1 _ := hr.mono (by decide)
  have ml := T.W.len
  have C := T.W.C
  have okW := ok_wholeP (P := P) (w := w) (base := base) T.W
  refine ⟨_, pss_cons (ps_setLc (i := 2) (own := [("word", 3)]) (g := gName 3) (tt := tYes) (te := tCall spIndex [] E0 (tCons (tVar 3) tNil)) rfl scAddS.nd rfl rfl (sw_true rfl rfl rfl rfl) (pi_list (pv 1)) (blkOk_by (N := ["pattern", "words", "numbers", "word"]) (sc := defScope S_add_seam) (by decide +kernel))
      (fun _ _ _ _ _ => pg_name (i := 3) scAddS.nd rfl (Or.inl rfl)) (fun _ _ _ _ _ => pts_nil) (fun _ _ _ _ _ => pe_call (ok_index T.X T.N.int) hr1 rfl T.X.m T.X.F.kp T.X.b .nil pass0 (pa_cons (pv 3) pa_nil)))
    (pss_cons (ps_if (PW.pt (pw_or (pt_cmpR op_ne (pe_callB call_len_seq rfl ml PySem.boot_len (pa_cons (pv 2) pa_nil)) pe_int (nomark _)) (pw_or (pt_cmpR op_in_seq pe_non (pv 2) (by rfl)) (pw_or1 (pt_not (pt_val (pe_call okW hr1 rfl T.W.W.m T.W.W.F.kp T.W.W.b .nil pass0 (pa_cons (pv 0) pa_nil)))))))) (pss_one (ps_ret pe_bl)) pss_nil)
    (pss_cons (ps_expr (pe_bm PySem.F.plainAttrs_list PySem.F.slot_list_append PySem.F.type_list_append mt_append (pe_fld (pv 0) rfl) (pa_cons (pe_tup (pa_cons (pe_tup (pa_cons (pe_ix ix_list (pv 2) pe_int (fun _ _ => rfl)) (pa_cons (pe_ix ix_list (pv 2) pe_int (fun _ _ => rfl)) pa_nil)))
        (pa_cons (pe_tup (pa_cons (pe_ix ix_list (pv 2) pe_int (fun _ _ => rfl)) (pa_cons (pe_ix ix_list (pv 2) pe_int (fun _ _ => rfl)) pa_nil))) pa_nil))) pa_nil)))
    (pss_one (ps_ret pe_bl)))), ?_⟩
  obtain ⟨dx, ei⟩ := S.ins
  obtain ⟨svs, hsv, hps⟩ := S.sms
  refine ⟨_, rfl, l, rfl, ⟨_, SqL.of hl⟩, fun D2 hD2 => ?_⟩
  have lt : (txs ws).length = ws.length := List.length_map _
  refine lc_list (xs := txs ws) (fun i H' => Same H H' ∧ ∃ ns, H' D2 = some (.lst ns) ∧ Paired IxAt ns ((ws.take i).map readNat)) ⟨same_new hD2 _, [], upd_same, .nil⟩ (fun i H' _ ⟨s1, _⟩ => SqL.of (s1 _ _ hl)) (fun i x H' hi ⟨s1, ns, s2, s3⟩ => ?_) (fun H' ⟨s1, ns, s2, s3⟩ => ?_)
  · have hil : i < ws.length := by rw [← lt]; exact (List.getElem?_eq_some_iff.mp hi).1
    have hw' : ws[i]? = some ws[i] := List.getElem?_eq_getElem hil
    obtain ⟨lo, l5⟩ := hlow _ (List.mem_of_getElem? hw')
    rw [List.getElem?_map, hw'] at hi
    obtain rfl : x = V.str (tx ws[i]) := (Option.some.inj hi).symm
    have lns : ns.length ≤ 5000 := by
      rw [Paired.length s3, List.length_map, List.length_take]
      omega
    have fin : ∀ (v : V), IxAt v (readNat ws[i]) → ∃ acc, H' D2 = some (.lst acc) ∧ acc.length < sizeLine ∧ Same H (upd H' D2 (.lst (acc ++ [v]))) ∧ ∃ ns', upd H' D2 (.lst (acc ++ [v])) D2 = some (.lst ns') ∧ Paired IxAt ns' ((ws.take (i + 1)).map readNat) := fun v hn => by
      refine ⟨ns, s2, by rw [sizeLine_eq]; omega, fun b o hb => ?_, ns ++ [v], upd_same, ?_⟩
      · rw [upd_ne (ne_of_none hb hD2)]
        exact s1 b o hb
      · rw [List.take_add_one, hw', List.map_append]
        exact paired_snoc s3 hn
    refine ⟨rfl, _, rfl, ws[i], rfl, lo, l5, fun n hq => ?_, fun hn => ?_⟩
    · exact fin _ (by rw [hq]; rfl)
    · exact fin .non (by rw [hn]; rfl)
  · have tk : ws.take (txs ws).length = ws := by rw [lt]; exact List.take_length
    rw [tk] at s3
    have ln : ns.length = ws.length := by rw [Paired.length s3, List.length_map]
    refine ⟨_, rfl, D2, ns, rfl, .inl (SqL.of s2), rfl, ?_⟩
    rw [ln, dec_4]
    by_cases h4 : ws.length = 4
    case neg =>
      rw [decide_eq_false h4]
      refine ⟨_, rfl, iteT (iteT (bad ?_ _ s1))⟩
      have : seamW ws = none := by
        match ws, h4 with
        | [], _ => rfl
        | [_], _ => rfl
        | [_, _], _ => rfl
        | [_, _, _], _ => rfl
        | [_, _, _, _], h => exact absurd rfl h
        | _ :: _ :: _ :: _ :: _ :: _, _ => rfl
      rw [this]
      rfl
    rw [decide_eq_true h4]
    obtain ⟨i, j, k, t, rfl⟩ : ∃ i j k t, ws = [i, j, k, t] := by
      match ws, h4 with
      | [i, j, k, t], _ => exact ⟨i, j, k, t, rfl⟩
    obtain ⟨n1, n2, n3, n4, rfl, z1, z2, z3, z4⟩ : ∃ n1 n2 n3 n4, ns = [n1, n2, n3, n4] ∧ IxAt n1 (readNat i) ∧ IxAt n2 (readNat j) ∧ IxAt n3 (readNat k) ∧ IxAt n4 (readNat t) := by
      cases s3 with
      | cons q1 t1 =>
        cases t1 with
        | cons q2 t2 =>
          cases t2 with
          | cons q3 t3 =>
            cases t3 with
            | cons q4 t4 =>
              cases t4
              exact ⟨_, _, _, _, rfl, q1, q2, q3, q4⟩
    have sw : seamW [i, j, k, t] = (match readNat i, readNat j, readNat k, readNat t with
      | some i, some j, some k, some l => some (SeamPattern.Line.seam ((i, j), (k, l)))
      | _, _, _, _ => none) := rfl
    rw [sw] at good bad
    have fl : ∀ {v : V} {o : Option Nat}, IxAt v o → flatV v = true := fun {v o} h => by
      cases o with
      | none =>
        cases (show v = .non from h)
        rfl
      | some n =>
        rw [show v = .int (trimN n : Nat) from h]
        rfl
    have fl4 : [n1, n2, n3, n4].all flatV = true := by
      simp [fl z1, fl z2, fl z3, fl z4]
    refine ⟨_, rfl, iteF ⟨_, rfl, D2, _, rfl, .inl (SqL.of s2), rfl, fl4, _, rfl, ?_⟩⟩
    by_cases hall : ∃ a b c d, readNat i = some a ∧ readNat j = some b ∧ readNat k = some c ∧ readNat t = some d
    case neg =>
      have hin : inV .non [n1, n2, n3, n4] = true := by
        have has : n1 = .non ∨ n2 = .non ∨ n3 = .non ∨ n4 = .non := by
          cases hi : readNat i with
          | none => rw [hi] at z1; exact .inl z1
          | some a =>
            cases hj : readNat j with
            | none => rw [hj] at z2; exact .inr (.inl z2)
            | some b =>
              cases hk : readNat k with
              | none => rw [hk] at z3; exact .inr (.inr (.inl z3))
              | some c =>
                cases ht : readNat t with
                | none => rw [ht] at z4; exact .inr (.inr (.inr z4))
                | some d => exact absurd ⟨a, b, c, d, hi, hj, hk, ht⟩ hall
        unfold inV
        rcases has with e | e | e | e
        · rw [e]; rfl
        · rw [e]; simp [List.any_cons]; right; left; rfl
        · rw [e]; simp [List.any_cons]; right; right; left; rfl
        · rw [e]; simp [List.any_cons]; right; right; right; rfl
      show ite (inV .non [n1, n2, n3, n4] = true) _ _
      rw [hin]
      refine iteT (iteT (bad ?_ _ s1))
      have : (match readNat i, readNat j, readNat k, readNat t with
        | some i, some j, some k, some l => some (SeamPattern.Line.seam ((i, j), (k, l)))
        | _, _, _, _ => none) = none := by
        split
        · rename_i a b c d hi hj hk ht
          exact absurd ⟨a, b, c, d, hi, hj, hk, ht⟩ hall
        · rfl
      rw [this]
      rfl
    obtain ⟨a, b, c, d, hi, hj, hk, ht⟩ := hall
    rw [hi] at z1
    rw [hj] at z2
    rw [hk] at z3
    rw [ht] at z4
    obtain rfl : n1 = .int (trimN a : Nat) := z1
    obtain rfl : n2 = .int (trimN b : Nat) := z2
    obtain rfl : n3 = .int (trimN c : Nat) := z3
    obtain rfl : n4 = .int (trimN d : Nat) := z4
    rw [hi, hj, hk, ht] at good bad
    have good : ∀ k, m.next (.seam ((a, b), (c, d))) = some k → ∀ H', Grown D H H' r pl sl vcs k → Q (.bl true) H' := good
    have bad : m.next (.seam ((a, b), (c, d))) = none → ∀ H', Same H H' → Q (.bl false) H' := bad
    rw [next_seam m on_] at good bad
    refine iteF ⟨_, rfl, r, pl, sl, vcs, m.pieces, m.seams.map trimS, rfl, S.same s1, fun H2 s2' => ⟨_, rfl, ?_⟩⟩
    rw [← enough_is]
    have s12 := s1.trans s2'
    have hD2' := s2' _ _ s2
    cases hen : m.enough with
    | false =>
      rw [if_neg (by rw [hen]; decide)] at bad
      exact iteT (bad rfl _ s12)
    | true =>
      rw [if_pos hen] at good
      refine iteF ⟨_, rfl, r, D.CT, dx, _, _, rfl, s12 _ _ ei, C.clT, C.nTs, rfl, .inl ⟨rfl, _, SqL.of (s12 _ _ hsv)⟩, ?_⟩
      refine ⟨_, rfl, D2, _, 0, _, rfl, rfl, SqL.of hD2', atI_nat (j := 0) rfl, _, rfl, D2, _, 1, _, rfl, rfl, SqL.of hD2', atI_nat (j := 1) rfl, by show 2 ≤ sizeLine; decide, fun t1 ht1 => ?_⟩
      have s3' : Same H2 (upd H2 t1 (two (trimN a : Nat) (trimN b : Nat))) := same_new ht1 _
      have w1 : (upd H2 t1 (two (trimN a : Nat) (trimN b : Nat))) t1 = some (two (trimN a : Nat) (trimN b : Nat)) := upd_same
      have e1 : upd H2 t1 (.tup [.int (trimN a : Nat), .int (trimN b : Nat)]) = upd H2 t1 (two (trimN a : Nat) (trimN b : Nat)) := rfl
      rw [e1]
      generalize upd H2 t1 (two (trimN a : Nat) (trimN b : Nat)) = H3 at s3' w1 ⊢
      have hD3 := s3' _ _ hD2'
      refine ⟨_, rfl, D2, _, 2, _, rfl, rfl, SqL.of hD3, atI_nat (j := 2) rfl, _, rfl, D2, _, 3, _, rfl, rfl, SqL.of hD3, atI_nat (j := 3) rfl, by show 2 ≤ sizeLine; decide, fun t2 ht2 => ?_⟩
      have s4' : Same H3 (upd H3 t2 (two (trimN c : Nat) (trimN d : Nat))) := same_new ht2 _
      have w2 : (upd H3 t2 (two (trimN c : Nat) (trimN d : Nat))) t2 = some (two (trimN c : Nat) (trimN d : Nat)) := upd_same
      have e2 : upd H3 t2 (.tup [.int (trimN c : Nat), .int (trimN d : Nat)]) = upd H3 t2 (two (trimN c : Nat) (trimN d : Nat)) := rfl
      rw [e2]
      generalize upd H3 t2 (two (trimN c : Nat) (trimN d : Nat)) = H4 at s4' w2 ⊢
      refine ⟨by show 2 ≤ sizeLine; decide, fun t3 ht3 => ?_⟩
      have s5' : Same H4 (upd H4 t3 (.tup [.ref t1, .ref t2])) := same_new ht3 _
      have w3 : (upd H4 t3 (.tup [.ref t1, .ref t2])) t3 = some (.tup [.ref t1, .ref t2]) := upd_same
      generalize upd H4 t3 (.tup [.ref t1, .ref t2]) = H5 at s5' w3 ⊢
      have sAll := ((s12.trans s3').trans s4').trans s5'
      have hs5 := sAll _ _ hsv
      have lsv : svs.length = m.seams.length := by rw [Paired.length hps, List.length_map]
      refine ⟨sl, _, _, rfl, rfl, hs5, by rw [lsv, sizeLine_eq]; omega, ?_⟩
      have kp : Kp [sl] H5 (upd H5 sl (.lst (svs ++ [.ref t3]))) := Kp.put hs5 rfl (List.mem_singleton.mpr rfl)
      have kpH : Kp [sl] H (upd H5 sl (.lst (svs ++ [.ref t3]))) := (Kp.same sAll).trans kp
      have notins : ∀ a ∈ [sl], ∀ C' dx' fs, H a ≠ some (.ins C' dx' fs) := fun a ha C' dx' fs z => by
        rw [List.mem_singleton.mp ha, hsv] at z
        cases z
      refine good _ rfl _ ⟨vcs, kpH.mono (by simp), ⟨⟨dx, ?_⟩, ?_, S.ne, S.nd, S.np, S.ns, ?_, svs ++ [.ref t3], upd_same, ?_⟩, fun y hy => .inl hy⟩
      · exact kpH _ _ ei (.inl fun z => notins r (by rw [List.mem_singleton] at z ⊢; exact z) _ _ _ ei)
      · exact kpH _ _ S.pcs (.inl fun z => S.ne (List.mem_singleton.mp z))
      · exact paired_map2 (fun vc pc hm z => z.kp kpH (fun y => S.ns (by rw [← List.mem_singleton.mp y]; exact List.mem_map.mpr ⟨vc, hm, rfl⟩)) notins) S.all
      · rw [List.map_append]
        refine paired_snoc (paired_map (fun _ _ z => z.kp kpH) hps) ⟨t3, .ref t1, .ref t2, rfl, kp _ _ w3 (.inr rfl), ?_, ?_⟩
        · exact ⟨t1, rfl, kp _ _ (s5' _ _ (s4' _ _ w1)) (.inr rfl)⟩
        · exact ⟨t2, rfl, kp _ _ (s5' _ _ w2) (.inr rfl)⟩
/-! ### add_line -/
def strD (b : Bytes) : PyData := .str (tx b)
theorem strOk_low {b : Bytes} (h : Low b) : PyData.strOk (tx b) = true := by
  unfold PyData.strOk
  have e : (tx b).cps.all (fun x => decide (x < 0x110000)) = b.all fun _ => true := all_tx fun c hc => by
    have := h c hc
    exact decide_eq_true (by omega)
  rw [e]
  simp
theorem shaped_strs {ws : List Bytes} (h : ∀ b ∈ ws, Low b) : SeqAt.shaped (.list (ws.map strD)) = true := by
  unfold SeqAt.shaped
  have a1 : ∀ {l : List Bytes}, (∀ b ∈ l, Low b) → PyData.canLayAll0 (l.map strD) = true ∧ PyData.depthAll (l.map strD) = 0 := by
    intro l
    induction l with
    | nil => intro _; exact ⟨by simp [PyData.canLayAll0], by simp [PyData.depthAll]⟩
    | cons x r ih =>
      intro hl
      obtain ⟨i1, i2⟩ := ih fun b hb => hl b (List.mem_cons_of_mem _ hb)
      rw [List.map_cons]
      unfold PyData.canLayAll0 PyData.depthAll
      rw [i1, i2]
      unfold strD PyData.canLay0 PyData.depth
      rw [strOk_low (hl x (List.mem_cons_self ..))]
      exact ⟨rfl, rfl⟩
  obtain ⟨i1, i2⟩ := a1 h
  have h1 : PyData.canLay0 (.list (ws.map strD)) = true := by unfold PyData.canLay0; exact i1
  have h2 : PyData.depth (.list (ws.map strD)) ≤ 64 := by unfold PyData.depth; omega
  rw [h1, decide_eq_true h2]
  rfl
theorem dp_strs {H : Hp} {l : Addr} {ws : List Bytes} (h : H l = some (.lst (txs ws))) : Dp K H (.ref l) (.list (ws.map strD)) := by
  refine .lst (SqL.of h) ?_
  clear h
  induction ws with
  | nil => exact .nil
  | cons b r ih => exact .cons (.str _) ih
theorem eqv_strs : ∀ (a b : List Bytes), PyData.eqvAll (a.map strD) (b.map strD) = decide (a = b)
  | [], [] => rfl
  | [], _ :: _ => rfl
  | _ :: _, [] => rfl
  | x :: a, y :: b => by
    rw [List.map_cons, List.map_cons]
    unfold PyData.eqvAll
    rw [eqv_strs a b]
    unfold strD PyData.eqv
    rw [Bool.eq_iff_iff]
    simp only [Bool.and_eq_true, beq_iff_eq, decide_eq_true_eq, List.cons.injEq]
    constructor
    · rintro ⟨p, q⟩
      exact ⟨tx_inj p, q⟩
    · rintro ⟨p, q⟩
      exact ⟨by rw [p], q⟩
theorem scAddL : FnScope ["pattern", "words"] ["pattern", "words"] (defScope S_add_line) := ⟨rfl, rfl, rfl, by decide +kernel, rfl, by decide +kernel, by decide +kernel⟩
theorem ok_addL (T : AddT K mg P base D A) : FnOk P w K mg base CX0 37 A.fY A.dY ["pattern", "words"] (spAdd D lineW true) := by
  refine T.AL.F.ok scAddL (fun vs H Q E h => ?_) (fun cdv A0 outer s H vs Q E hr h => ?_)
  · obtain ⟨r, l, pl, sl, vcs, ws, m, rfl, _⟩ := h
    rfl
  obtain ⟨r, l, pl, sl, vcs, ws, m, rfl, ⟨hl, hlow, few, S, M, on_, h5⟩, wne, good, bad⟩ := h
  have hr1 : Room 1 _ := hr.mono (by decide)
  have okW := ok_wholeP (P := P) (w := w) (base := base) T.W
  refine ⟨_, pss_cons (ps_if (pt_cmpR (op_eqD hr.units) (pv 1) (pe_lst (pa_cons pe_str pa_nil)) (nomark _)) (pss_one (ps_ret (pe_call okW hr1 rfl T.W.W.m T.W.W.F.kp T.W.W.b .nil pass0 (pa_cons (pv 0) pa_nil)))) pss_nil)
    (pss_cons (ps_if (pt_cmpR op_eq (pe_ix ix_list (pv 1) pe_int (fun _ _ => rfl)) pe_str (by rfl)) (pss_one (ps_ret (pe_call (ok_addP T) hr rfl T.AP.m T.AP.F.kp T.AP.b .nil pass0 (pa_cons (pv 0) (pa_cons (pe_slice sl_list (pv 1) (po_some pe_int) po_none) pa_nil))))) pss_nil)
    (pss_cons (ps_if (pt_cmpR op_eq (pe_ix ix_list (pv 1) pe_int (fun _ _ => rfl)) pe_str (by rfl)) (pss_one (ps_ret (pe_call (ok_addS T) hr rfl T.AS.m T.AS.F.kp T.AS.b .nil pass0 (pa_cons (pv 0) (pa_cons (pe_slice sl_list (pv 1) (po_some pe_int) po_none) pa_nil))))) pss_nil)
    (pss_one (ps_ret (pe_call (ok_addC T) hr rfl T.AC.m T.AC.F.kp T.AC.b .nil pass0 (pa_cons (pv 0) (pa_cons (pv 1) pa_nil)))))))
    , ?_⟩
  have lw := lineW_is ws
  rw [lw] at good bad
  obtain ⟨x, rest, rfl⟩ : ∃ x rest, ws = x :: rest := by
    cases ws with
    | nil => exact absurd rfl (wne rfl)
    | cons x rest => exact ⟨x, rest, rfl⟩
  have eE : Str.ofString "end" = tx (ascii "end") := by decide +kernel
  have eP : Str.ofString "piece" = tx (ascii "piece") := by decide +kernel
  have eS : Str.ofString "seam" = tx (ascii "seam") := by decide +kernel
  refine ⟨_, rfl, by show 1 ≤ sizeLine; decide, fun tp htp => ?_⟩
  have s1 : Same H (upd H tp (.lst (txs [ascii "end"]))) := same_new htp _
  have h1 : (upd H tp (.lst (txs [ascii "end"]))) tp = some (.lst (txs [ascii "end"])) := upd_same
  have e1 : upd H tp (.lst [.str (Str.ofString "end")]) = upd H tp (.lst (txs [ascii "end"])) := by rw [eE]; rfl
  rw [e1]
  generalize upd H tp (.lst (txs [ascii "end"])) = H1 at s1 h1 ⊢
  have hl1 := s1 _ _ hl
  refine ⟨_, _, dp_strs hl1, dp_strs h1, shaped_strs (fun b hb => (hlow b hb).1), shaped_strs (fun b hb => by rw [List.mem_singleton.mp hb]; unfold Low; decide +kernel), _, rfl, ?_⟩
  have ev : PyData.eqv (.list ((x :: rest).map strD)) (.list ([ascii "end"].map strD)) = decide (x :: rest = [ascii "end"]) := by
    unfold PyData.eqv
    exact eqv_strs _ _
  rw [ev]
  by_cases hE : x :: rest = [ascii "end"]
  · rw [decide_eq_true hE]
    rw [if_pos hE] at good bad
    have good : ∀ k, m.next .end_ = some k → ∀ H', Grown D H H' r pl sl vcs k → Q (.bl true) H' := good
    have bad : m.next .end_ = none → ∀ H', Same H H' → Q (.bl false) H' := bad
    have nx : m.next .end_ = if m.enough = true then some { m with ended := true } else none := by
      show (if m.ended = true then none else _) = _
      rw [on_, if_neg (by decide)]
    rw [nx] at good bad
    refine iteT ⟨_, rfl, r, pl, sl, vcs, m.pieces, m.seams.map trimS, rfl, S.same s1, fun H2 s2 => ?_⟩
    rw [← enough_is]
    have s12 := s1.trans s2
    cases hen : m.enough with
    | false =>
      rw [if_neg (by rw [hen]; decide)] at bad
      exact bad rfl _ s12
    | true =>
      rw [if_pos hen] at good
      exact good _ rfl _ ⟨vcs, Kp.same s12, S.same s12, fun y hy => .inl hy⟩
  · rw [decide_eq_false hE]
    rw [if_neg hE] at good bad
    have hd : (x :: rest).headD [] = x := rfl
    have tl' : (x :: rest).tail = rest := rfl
    rw [hd, tl'] at good bad
    refine iteF ⟨_, rfl, l, _, 0, .str (tx x), rfl, rfl, SqL.of hl1, atI_nat (j := 0) rfl, rfl, ?_⟩
    have cutE : cutV (txs (x :: rest)) (some 1) none = txs rest := cut_tail _
    have lowR : ∀ b ∈ rest, Low b ∧ b.length ≤ 5000 := fun b hb => hlow b (List.mem_cons_of_mem _ hb)
    have fewR : rest.length ≤ 5000 := by have := few; simp only [List.length_cons] at this; omega
    -- a function that wants words behind the first
    rw [eP, dec_str]
    by_cases hP : x = ascii "piece"
    · rw [decide_eq_true hP]
      rw [if_pos hP] at good bad
      refine ⟨_, rfl, iteT ⟨_, rfl, _, rfl, _, rfl, l, _, rfl, SqL.of hl1, fun t2 ht2 => ?_⟩⟩
      rw [cutE]
      have s2 : Same H1 (upd H1 t2 (.lst (txs rest))) := same_new ht2 _
      have h2 : (upd H1 t2 (.lst (txs rest))) t2 = some (.lst (txs rest)) := upd_same
      generalize upd H1 t2 (.lst (txs rest)) = H2 at s2 h2 ⊢
      have s12 := s1.trans s2
      exact ⟨r, t2, pl, sl, vcs, rest, m, rfl, ⟨h2, lowR, fewR, S.same s12, M, on_, h5⟩, (fun z => by cases z), fun k e H' g => good k e H' (grown_pat s12 g), fun e H' s => bad e H' (s12.trans s)⟩
    · rw [decide_eq_false hP]
      rw [if_neg hP] at good bad
      refine ⟨_, rfl, iteF ⟨_, rfl, l, _, 0, .str (tx x), rfl, rfl, SqL.of hl1, atI_nat (j := 0) rfl, rfl, ?_⟩⟩
      rw [eS, dec_str]
      by_cases hS : x = ascii "seam"
      · rw [decide_eq_true hS]
        rw [if_pos hS] at good bad
        refine ⟨_, rfl, iteT ⟨_, rfl, _, rfl, _, rfl, l, _, rfl, SqL.of hl1, fun t2 ht2 => ?_⟩⟩
        rw [cutE]
        have s2 : Same H1 (upd H1 t2 (.lst (txs rest))) := same_new ht2 _
        have h2 : (upd H1 t2 (.lst (txs rest))) t2 = some (.lst (txs rest)) := upd_same
        generalize upd H1 t2 (.lst (txs rest)) = H2 at s2 h2 ⊢
        have s12 := s1.trans s2
        exact ⟨r, t2, pl, sl, vcs, rest, m, rfl, ⟨h2, lowR, fewR, S.same s12, M, on_, h5⟩, (fun z => by cases z), fun k e H' g => good k e H' (grown_pat s12 g), fun e H' s => bad e H' (s12.trans s)⟩
      · rw [decide_eq_false hS]
        rw [if_neg hS] at good bad
        exact ⟨_, rfl, iteF ⟨_, rfl, _, rfl, r, l, pl, sl, vcs, x :: rest, m, rfl, ⟨hl1, hlow, few, S.same s1, M, on_, h5⟩, (fun z => by cases z), fun k e H' g => good k e H' (grown_pat s1 g), fun e H' s => bad e H' (s1.trans s)⟩⟩
end
end SDP
set_option Elab.async false
set_option linter.all false
/-! # Lines one by one; what is left behind them -/
namespace SR
open SeamNum SeamPoly SeamPattern SD

theorem partsB_short (c : UInt8) : ∀ (b : Bytes), ∀ w ∈ partsB c b, w.length ≤ b.length
  | [], w, hw => by
    simp only [partsB, List.mem_singleton] at hw
    rw [hw]
    exact Nat.le_refl _
  | x :: r, w, hw => by
    have ih := partsB_short c r
    rw [partsB] at hw
    rw [List.length_cons]
    by_cases h : x = c
    · rw [if_pos h] at hw
      rcases List.mem_cons.mp hw with z | z
      · rw [z]; simp
      · exact Nat.le_succ_of_le (ih w z)
    · rw [if_neg h] at hw
      cases hq : partsB c r with
      | nil => exact absurd hq (partsB_ne c r)
      | cons y l =>
        rw [hq] at hw ih
        rcases List.mem_cons.mp hw with z | z
        · rw [z, List.length_cons]
          exact Nat.succ_le_succ (ih y (List.mem_cons_self ..))
        · exact Nat.le_succ_of_le (ih w (List.mem_cons_of_mem _ z))
def isEnd : Line → Bool
  | .end_ => true
  | _ => false
theorem next_ended {m : Making} (h : m.ended = true) (l : Line) : m.next l = none := by
  unfold Making.next
  rw [if_pos h]
theorem bind_ended {m : Making} (h : m.ended = true) (o : Option Line) : o.bind m.next = none := by
  cases o with
  | none => rfl
  | some l => exact next_ended h l
theorem next_keeps {m k : Making} {l : Line} (h : m.ended = false) (e : m.next l = some k) : k.ended = isEnd l ∧ k.seams.length ≤ m.seams.length + 1 := by
  unfold Making.next at e
  rw [h, if_neg (by decide)] at e
  cases l with
  | piece n g =>
    simp only at e
    split at e
    · cases e
      exact ⟨rfl, Nat.le_succ _⟩
    · cases e
  | corner q =>
    simp only at e
    split at e
    · split at e
      · cases e
        exact ⟨rfl, Nat.le_succ _⟩
      · cases e
    · cases e
  | seam s =>
    simp only at e
    split at e
    · cases e
      refine ⟨rfl, ?_⟩
      show (m.seams ++ [s]).length ≤ _
      rw [List.length_append]
      exact Nat.le_refl _
    · cases e
  | end_ =>
    simp only at e
    split at e
    · cases e
      exact ⟨rfl, Nat.le_succ _⟩
    · cases e
theorem lineW_end {ws : List Bytes} {l : Line} (h : lineW ws = some l) : isEnd l = decide (ws = [ascii "end"]) := by
  rw [lineW_is] at h
  by_cases e : ws = [ascii "end"]
  · rw [if_pos e] at h
    cases h
    rw [decide_eq_true e]
    rfl
  · rw [if_neg e] at h
    rw [decide_eq_false e]
    by_cases h1 : ws.headD [] = ascii "piece"
    · rw [if_pos h1] at h
      unfold pieceW at h
      split at h
      · split at h
        · obtain ⟨g, _, q⟩ := map_some h
          rw [← q]
          rfl
        · cases h
      · cases h
    · rw [if_neg h1] at h
      by_cases h2 : ws.headD [] = ascii "seam"
      · rw [if_pos h2] at h
        unfold seamW at h
        split at h
        · split at h
          · cases h
            rfl
          · cases h
        · cases h
      · rw [if_neg h2] at h
        unfold cornerW at h
        obtain ⟨g, _, q⟩ := map_some h
        rw [← q]
        rfl
theorem line_after {ws : List Bytes} {m k : Making} (h : m.ended = false) (e : (lineW ws).bind m.next = some k) : k.ended = decide (ws = [ascii "end"]) ∧ k.seams.length ≤ m.seams.length + 1 := by
  cases hl : lineW ws with
  | none => rw [hl] at e; cases e
  | some l =>
    rw [hl] at e
    obtain ⟨a, b⟩ := next_keeps h e
    exact ⟨a.trans (lineW_end hl), b⟩
theorem line_made {b : Bytes} {m k : Making} (h : Made m) (e : (lineW (wordsOf b)).bind m.next = some k) : Made k := by
  rw [← readLine_w] at e
  cases hl : readLine b with
  | none => rw [hl] at e; cases e
  | some l =>
    rw [hl] at e
    exact h.next (readLine_fine hl) e
/-- the line that can't stand -/
theorem making_at {ls : List Bytes} {m0 m : Making} {i : Nat} {b : Bytes} (h : making 0 m0 (ls.take i) = .ok m) (hi : ls[i]? = some b) : ((lineW (wordsOf b)).bind m.next = none → making 0 m0 ls = .error i) ∧
    (∀ k, (lineW (wordsOf b)).bind m.next = some k → making 0 m0 (ls.take (i + 1)) = .ok k) := by
  have hlt := (List.getElem?_eq_some_iff.mp hi).1
  have el : (ls.take i).length = i := by rw [List.length_take]; omega
  constructor
  · intro e
    have z := making_more (ls.drop i) (ls.take i) 0 m0 m h
    rw [List.take_append_drop, el, Nat.zero_add] at z
    have ed : ls.drop i = b :: ls.drop (i + 1) := by
      have q := List.getElem?_eq_some_iff.mp hi
      rw [List.drop_eq_getElem_cons q.1, q.2]
    rw [ed, making, readLine_w, e] at z
    exact z
  · intro k e
    rw [List.take_add_one, hi]
    have z := making_more [b] (ls.take i) 0 m0 m h
    rw [el, Nat.zero_add, making, readLine_w, e] at z
    exact z
theorem rest_is (ps : List Piece) (ss : List Seam) : rest ⟨ps, ss⟩ = ((noneTwice (ps.map fun p => p.name) && ps.all fun p => (p.grain != origin) && (simple p.row && decide (0 < area p.row))) && seamsOk ps ss []) := by
  unfold rest
  rw [seamsOk_all]
  have e : ps.all (fun p => simple p.row && (decide (0 < area p.row) && p.grain != origin)) = ps.all fun p => (p.grain != origin) && (simple p.row && decide (0 < area p.row)) := by
    congr 1
    funext p
    cases simple p.row <;> cases decide (0 < area p.row) <;> cases (p.grain != origin) <;> rfl
  rw [e]
  have en : (⟨ps, ss⟩ : Pattern).names = ps.map fun p => p.name := rfl
  have es : (⟨ps, ss⟩ : Pattern).seams = ss := rfl
  have ep : (⟨ps, ss⟩ : Pattern).pieces = ps := rfl
  rw [en]
  cases ps.all (fun p => (p.grain != origin) && (simple p.row && decide (0 < area p.row))) <;> cases noneTwice (ps.map fun p => p.name) <;> rfl
end SR
set_option Elab.async false
set_option linter.all false
set_option maxRecDepth 100000
set_option maxHeartbeats 4000000
set_option exponentiation.threshold 100000
/-! # NoPattern, read_pattern, check_lengths -/
namespace SDP
open PySem PySem.Spec PyProof.Rows L2 SDX SD TL SR
open SeamNum (Bytes fits FINE Point fitsP ascii)
open SeamPattern (Edge Seam readNum readPoint isDigit natOf readNat isName Making making linesOf wordsOf readPattern Pattern)

/-! ### texts parted -/
theorem split_byte {sep : Str} {c : UInt8} (es : tl sep = [c.toNat]) (hk : sep.cps.all (· < 256) = true) (b : Bytes) : Txt.split (tx b) sep = (partsB c b).map tx := by
  have q := split_join (y := sep) (s := c.toNat) (S := []) es hk (parts := (partsB c b).map tx) (fun z => partsB_ne c b (List.map_eq_nil_iff.mp z)) (fun p hp => by
    obtain ⟨w, hw, rfl⟩ := List.mem_map.mp hp
    intro z
    have z' : c.toNat ∈ w.map UInt8.toNat := z
    obtain ⟨d, hd, e⟩ := List.mem_map.mp z'
    rw [UInt8.toNat_inj.mp e] at hd
    exact partsB_free c b w hw hd)
  rw [← q]
  congr 1
  rw [join_eq]
  refine ext_tl ?_
  rw [tl_join, es, List.map_map]
  have go : ∀ l : List Bytes, joinL [c.toNat] (l.map (tl ∘ tx)) = (joinB c l).map UInt8.toNat := by
    intro l
    induction l with
    | nil => rfl
    | cons x r ih =>
      cases r with
      | nil => rfl
      | cons y r =>
        show x.map UInt8.toNat ++ ([c.toNat] ++ joinL [c.toNat] ((y :: r).map (tl ∘ tx))) = _
        rw [ih]
        show _ = (x ++ c :: joinB c (y :: r)).map UInt8.toNat
        rw [List.map_append, List.map_cons]
        rfl
  rw [go, joinB_parts]
  rfl
theorem split_nl (b : Bytes) : Txt.split (tx b) (Str.ofString "\n") = (partsB 10 b).map tx := split_byte (by decide +kernel) (by decide +kernel) b
theorem split_sp (b : Bytes) : Txt.split (tx b) (Str.ofString " ") = (wordsOf b).map tx := by
  rw [wordsOf_parts]
  exact split_byte (by decide +kernel) (by decide +kernel) b
section
variable {P : Program} {w : World} {K : PySem.W.Frag} {mg : Str → Option Value} {base : Heap} {D : PAd} {A : AddF}
/-! ### NoPattern -/
def spNoP (K : PySem.W.Frag) : Sp := fun vs H Q _ => ∃ (a C : Addr) (k : Int), vs = [.ref a, .int k] ∧ ExC K C ∧ PySem.W.findIn K (.ref C) "number" = some none ∧ PySem.W.findIn K (.ref C) "signed" = some none ∧ H a = some (exo a C none) ∧
  ∀ (d l : Addr) (H' : Hp), (∀ b o, b ≠ a → H b = some o → H' b = some o) → H d = none → l ≠ a → d ≠ a → H' a = some (exo a C (some d)) → H' d = some (exd d [("signed", .ref l), ("number", .int (-2))]) → H' l = some (.lst [.int k, .int 0]) → Q .non H'
theorem scNoP : FnScope ["self", "line"] ["self", "line"] (defScope S_NoPattern_I) := ⟨rfl, rfl, rfl, by decide +kernel, rfl, by decide +kernel, by decide +kernel⟩
theorem ok_noP {f f1 C1 : Addr} {fd fd1 : FuncData} {mc : Value} (F : L2.Fun K "__init__" "NoPattern.__init__" S_NoPattern_I f fd) (F1 : L2.Fun K "__init__" "Refusal.__init__" sRefI f1 fd1) (b1 : L2.Binds K fd1 ["self", "number", "signed"] [])
    (g1 : mg "Refusal" = some (.ref C1)) (cr : ClX.CRead K C1 mc) (cv : PySem.W.findCls K (.ref C1) mc "__init__" = some (.val (.ref f1)))
    (mE : mg "Exception" = none) (vE : PySem.W.findCls K (.type "Exception") (.type "type") "__init__" = some (.val (.builtin "Exception.__init__"))) :
    FnOk P w K mg base CX0 2 f fd ["self", "line"] (spNoP K) := by
  refine F.ok scNoP (fun vs H Q E h => ?_) (fun cdv A outer s H vs Q E hr h => ?_)
  · obtain ⟨a, C, k, rfl, _⟩ := h
    rfl
  obtain ⟨a, C, k, rfl, T, hn, hs, ha, q⟩ := h
  refine ⟨_, pss_one (ps_expr (pe_cfun (ok_refI F1 mE vE) hr rfl g1 cr cv F1.kp b1 .nil pass0 (pa_cons (pv 0) (pa_cons (pe_un un_neg pe_int) (pa_cons (pe_lst (pa_cons (pv 1) (pa_cons pe_int pa_nil))) pa_nil))))), ?_⟩
  refine ⟨_, rfl, _, rfl, _, rfl, (by show 2 ≤ sizeLine; decide), fun l hl => ?_⟩
  have hla : l ≠ a := fun z => by rw [z, ha] at hl; cases hl
  refine ⟨a, C, l, -2, rfl, T, hn, hs, ?_, fun d hd hda => ?_⟩
  · rw [upd_ne (Ne.symm hla)]
    exact ha
  have hdl : d ≠ l := fun z => by rw [z, upd_same] at hd; cases hd
  have hd0 : H d = none := by rw [upd_ne hdl] at hd; exact hd
  refine q d l _ (fun b o hb hbo => ?_) hd0 hla hda ?_ upd_same ?_
  · rw [upd_ne (ne_of_none hbo hd0), upd_ne hb, upd_ne (ne_of_none hbo hd0), upd_ne (ne_of_none hbo hl)]
    exact hbo
  · rw [upd_ne (Ne.symm hda), upd_same]
  · rw [upd_ne (Ne.symm hdl), upd_ne hla, upd_ne (Ne.symm hdl), upd_same]
theorem mk_noP {σ : L2.St} {H : Hp} {C f : Addr} {E : XK} {ta : TA} {k : Int} (T : ErrC K mg "NoPattern" C f) (rs : Rs C E (-2) [k, 0]) {H1 : Hp}
    (h : ∀ R : List V → Hp → Prop, R [.int k] H1 → ta σ H R) : tMkN C (spNoP K) ta σ H E := by
  refine h _ ⟨by show 1 ≤ 1000; decide, fun a ha => ⟨a, C, k, rfl, T.ex, T.noN, T.noS, upd_same, fun d l H' keep hd hla hda ea ed el => ⟨rfl, d, _, ea, ed, ?_, ?_⟩⟩⟩
  · rw [upd_ne hda] at hd
    exact hd
  · have hdl : d ≠ l := fun z => by
      rw [z, el] at ed
      cases ed
    exact rs_made (H1 := H1) rs hla hdl el
/-! ### read_pattern -/
structure ReadF where
  cNo : Addr
  fNo : Addr
  dNo : FuncData
  fTx : Addr
  dTx : FuncData
  fR : Addr
  dR : FuncData
  fMS : Addr
  dMS : FuncData
  fS : Addr
  fA : Addr
  fH : Addr
  fK : Addr
  fB : Addr
  fW : Addr
  fT : Addr
  fF : Addr
  fC : Addr
  fM : Addr
  dS : FuncData
  dA : FuncData
  dH : FuncData
  dK : FuncData
  dB : FuncData
  dW : FuncData
  dT : FuncData
  dF : FuncData
  dC : FuncData
  dM : FuncData
  eP : Addr
  eM : Addr
  eX : Addr
  eE : Addr
  eA : Addr
  eH : Addr
  eL : Addr
  eO : Addr
  gP : FuncData
  gM : FuncData
  gX : FuncData
  gE : FuncData
  gA : FuncData
  gH : FuncData
  gL : FuncData
  gO : FuncData
structure ReadT (K : PySem.W.Frag) (mg : Str → Option Value) (P : Program) (base : Heap) (D : PAd) (A : AddF) (R : RefAd) (Z : ReadF) : Prop where
  RC : RefC K mg R
  AD : AddT K mg P base D A
  E : EdgeT K mg D Z.eP Z.eM Z.eX Z.fF Z.eE Z.eA Z.eH Z.eL Z.eO Z.gP Z.gM Z.gX Z.dF Z.gE Z.gA Z.gH Z.gL Z.gO
  M : MayT K mg D Z.fS Z.fA Z.fH Z.fK Z.fB Z.fW Z.fT Z.fF Z.fC Z.fM Z.dS Z.dA Z.dH Z.dK Z.dB Z.dW Z.dT Z.dF Z.dC Z.dM
  S : Fn1 K mg "seams_may_be" S_seams_may_be ["pattern"] Z.fMS Z.dMS
  X : TextG K mg
  T : Fn1 K mg "text_of" sTextOf ["t"] Z.fTx Z.dTx
  RP : Fn1 K mg "read_pattern" S_read_pattern ["p"] Z.fR Z.dR
  no : ErrC K mg "NoPattern" Z.cNo Z.fNo
  FNo : L2.Fun K "__init__" "NoPattern.__init__" S_NoPattern_I Z.fNo Z.dNo
  bNo : L2.Binds K Z.dNo ["self", "line"] []
  xNo : PySem.W.exmOne K (.ref Z.cNo) (.ref R.cRef) = some true
  enum : mg "enumerate" = none
variable {R : RefAd} {Z : ReadF}
def spReadP (K : PySem.W.Frag) (D : PAd) (cNo : Addr) : Sp := fun vs H Q E => ∃ (a : Addr) (b : Bytes), vs = [.ref a] ∧ BytesL K H a b ∧ b.length ≤ 4200 ∧
  (∀ Pt H' r pl sl vcs, readPattern b = .ok Pt → Same H H' → PatS D.CT D.CP H' r pl sl vcs Pt.pieces Pt.seams → Fine Pt.pieces → Pt.seams.length ≤ 4300 → Q (.ref r) H') ∧ (∀ n : Nat, readPattern b = .error n → Rs cNo E (-2) [(n : Int), 0])
theorem scReadP : FnScope ["p", "lines", "rest", "pattern", "ended", "index", "line", "words"] ["p"] (defScope S_read_pattern) := ⟨rfl, rfl, rfl, by decide +kernel, rfl, by decide +kernel, by decide +kernel⟩
theorem fine_made {m : Making} (h : SR.Made m) : Fine m.pieces := ⟨h.few, fun p hp => (h.fine p hp).2.2.1, fun p hp => (h.fine p hp).2.2.2⟩
theorem low_kn (b : Bytes) : Low (b.map kn) := fun c hc => by
  obtain ⟨d, _, rfl⟩ := List.mem_map.mp hc
  exact kn128 d
theorem last_get {α : Type} {l : List α} {d : α} (h : l ≠ []) : l[l.length - 1]? = some (l.getLastD d) := by
  rw [List.getLastD_eq_getLast?, ← List.getLast?_eq_getElem?]
  cases e : l.getLast? with
  | none => exact absurd (List.getLast?_eq_none_iff.mp e) h
  | some x => rfl
theorem ok_readP (T : ReadT K mg P base D A R Z) : FnOk P w K mg base (L2N.CX P w) 38 Z.fR Z.dR ["p"] (spReadP K D Z.cNo) := by
  refine okN T.RP.F scReadP (fun vs H Q E h => ?_) (fun cdv A0 outer s H vs Q E hr h => ?_)
  · obtain ⟨a, b, rfl, _⟩ := h
    rfl
  obtain ⟨pa, b, rfl, hB, hb, good, rs⟩ := h
  have hr1 : Room 1 _ := hr.mono (by omega)
  have hr2 : Room 2 _ := hr.mono (by omega)
  have hr3 : Room 3 _ := hr.mono (by omega)
  have hr5 : Room 5 _ := hr.mono (by omega)
  have tk := L2N.takes_of (X := cxOf (L2N.CX P w) P w K mg base ["p", "lines", "rest", "pattern", "ended", "index", "line", "words"] "read_pattern" (defScope S_read_pattern) Z.fR cdv A0 outer s H E) (E := E) rfl rfl rfl rfl
  have C := T.E.C
  have okNo := ok_noP (P := P) (w := w) (base := base) T.FNo T.RC.FRef T.RC.bRef T.RC.ref.g T.RC.cr T.RC.cv T.RC.mE T.RC.vE
  have ml := T.E.T.len
  refine ⟨_, pss_cons (ps_set (i := 1) scReadP.nd rfl (Or.inl rfl) (pe_bm PySem.F.plainAttrs_str PySem.F.slot_str_split PySem.F.type_str_split mt_split (pe_call (ok_textOf T.T.F T.X) hr1 rfl T.T.m T.T.F.kp T.T.b .nil pass0 (pa_cons (pv 0) pa_nil)) (pa_cons pe_str pa_nil)))
    (pss_cons (ps_set (i := 2) scReadP.nd rfl (Or.inl rfl) (pe_bm0 PySem.F.plainAttrs_list PySem.F.slot_list_pop PySem.F.type_list_pop mt_pop (pv 1)))
    (pss_cons (ps_set (i := 3) scReadP.nd rfl (Or.inl rfl) (pe_make0 C.madeT (ok_TI C) hr2 rfl C.gT C.IT.b .nil pass0))
    (pss_cons (ps_set (i := 4) scReadP.nd rfl (Or.inl rfl) pe_bl)
    (pss_cons (ps_for (passes_of rfl) rfl (pi_enum rfl T.enum (pa_cons (pv 1) pa_nil)) (pg_tup rfl (pgs_cons (pg_name (i := 5) scReadP.nd rfl (Or.inl rfl)) (pgs_cons (pg_name (i := 6) scReadP.nd rfl (Or.inl rfl)) pgs_nil)))
      (pss_cons (ps_set (i := 7) scReadP.nd rfl (Or.inl rfl) (pe_bm PySem.F.plainAttrs_str PySem.F.slot_str_split PySem.F.type_str_split mt_split (pv 6) (pa_cons pe_str pa_nil)))
      (pss_cons (ps_if (PW.pt (pw_or (pt_val (pv 4)) (pw_or1 (pt_not (pt_val (pe_call (ok_addL T.AD) (hr.mono (by omega)) rfl T.AD.AL.m T.AD.AL.F.kp T.AD.AL.b .nil pass0 (pa_cons (pv 3) (pa_cons (pv 7) pa_nil))))))))
          (pss_one (L2N.ps_raise rfl tk (pmk_exN T.no.ex T.no.iC T.no.tI okNo hr3 T.bNo pass0 rfl T.no.g (pa_cons (pv 5) pa_nil)))) pss_nil)
      (pss_one (ps_set (i := 4) scReadP.nd rfl (Or.inl rfl) (pe_cmpR (op_eqD hr.units) (pv 7) (pe_lst (pa_cons pe_str pa_nil)) (nomark _)))))))
    (pss_cons (ps_if (PW.pt (pw_or (pt_cmpR op_ne (pv 2) pe_str (by rfl)) (pw_or (pt_not (pt_val (pv 4))) (pw_or (pt_not (pt_val (pe_call (ok_mayP T.M) hr5 rfl T.M.M.m T.M.M.F.kp T.M.M.b .nil pass0 (pa_cons (pv 3) pa_nil)))) (pw_or1 (pt_not (pt_val (pe_call (ok_mayS T.E T.S) hr5 rfl T.S.m T.S.F.kp T.S.b .nil pass0 (pa_cons (pv 3) pa_nil)))))))))
        (pss_one (L2N.ps_raise rfl tk (pmk_exN T.no.ex T.no.iC T.no.tI okNo hr3 T.bNo pass0 rfl T.no.g (pa_cons (pe_callB call_len_seq rfl ml PySem.boot_len (pa_cons (pv 1) pa_nil)) pa_nil)))) pss_nil)
    (pss_one (ps_ret (pv 3)))))))), ?_⟩
  obtain ⟨B, hBB⟩ : ∃ B, B = b.map kn := ⟨_, rfl⟩
  have lB : B.length = b.length := by rw [hBB, List.length_map]
  have lowB : Low B := by rw [hBB]; exact low_kn b
  have eR : readPattern b = readPattern B := by rw [hBB, readPattern_kn]
  rw [eR] at good rs
  refine ⟨_, rfl, pa, b, rfl, hB, by omega, fun HX sX => ?_⟩
  rw [← hBB]
  refine ⟨rfl, _, _, rfl, rfl, by decide +kernel, by rw [tx_len, sizeLine_eq]; omega, fun L hL => ?_⟩
  rw [split_nl]
  have pne := partsB_ne 10 B
  have plen := partsB_len 10 B
  have psh := partsB_short 10 B
  have pmem := partsB_mem 10 B
  have el := linesOf_parts B
  generalize partsB 10 B = parts at pne plen psh pmem el
  have s1 : Same HX (upd HX L (.lst ((parts.map tx).map V.str))) := same_new hL _
  have hL1 : (upd HX L (.lst ((parts.map tx).map V.str))) L = some (.lst (txs parts)) := by rw [upd_same, List.map_map]; rfl
  generalize (upd HX L (.lst ((parts.map tx).map V.str))) = H1 at s1 hL1 ⊢
  obtain ⟨ls, els⟩ : ∃ ls, ls = (linesOf B).1 := ⟨_, rfl⟩
  obtain ⟨last, elast⟩ : ∃ x, x = (linesOf B).2 := ⟨_, rfl⟩
  have e1 : parts.dropLast = ls := by rw [els, el]
  have e2 : parts.getLastD [] = last := by rw [elast, el]
  have lsub : ∀ x ∈ ls, x ∈ parts := fun x hx => by rw [← e1] at hx; exact (List.dropLast_sublist _).subset hx
  have llen : ls.length ≤ B.length := by rw [← e1, List.length_dropLast]; omega
  have lastp : parts[parts.length - 1]? = some last := by rw [← e2]; exact last_get pne
  have lastmem : last ∈ parts := List.mem_of_getElem? lastp
  have tl1 : (txs parts).length = parts.length := List.length_map _
  refine ⟨_, rfl, .inl ⟨rfl, _, SqL.of hL1⟩, L, _, .str (tx last), rfl, rfl, hL1, by rw [tl1, List.getElem?_map, lastp]; rfl, ?_⟩
  have e3 : (txs parts).dropLast = txs ls := by rw [← e1]; exact List.map_dropLast.symm
  rw [e3]
  have s2 : Same HX (upd H1 L (.lst (txs ls))) := fun y o hy => by rw [upd_ne (ne_of_none hy hL)]; exact s1 _ _ hy
  have hL2 : (upd H1 L (.lst (txs ls))) L = some (.lst (txs ls)) := upd_same
  generalize upd H1 L (.lst (txs ls)) = H2 at s2 hL2 ⊢
  intro r dx hr0 hdx hne
  refine ⟨r, dx, rfl, upd_same, fun H3 pl sl keep hpl hsl S3 => ⟨rfl, ?_⟩⟩
  have s3 : Same H2 H3 := fun y o hy => keep y o (ne_of_none hy hr0) (by rw [upd_ne (ne_of_none hy hr0), upd_ne (ne_of_none hy hdx)]; exact hy)
  have hpl2 : H2 pl = none := by
    have n1 : pl ≠ r := fun z => by rw [z, upd_same] at hpl; cases hpl
    rw [upd_ne n1] at hpl
    by_cases n2 : pl = dx
    · rw [n2]; exact hdx
    · rw [upd_ne n2] at hpl; exact hpl
  have hsl2 : H2 sl = none := by
    have n1 : sl ≠ r := fun z => by rw [z, upd_same] at hsl; cases hsl
    rw [upd_ne n1] at hsl
    by_cases n2 : sl = dx
    · rw [n2]; exact hdx
    · rw [upd_ne n2] at hsl; exact hsl
  have own0 : ∀ x ∈ own pl sl [], H2 x = none := fun x hx => by
    simp [own] at hx
    rcases hx with z | z
    · rw [z]; exact hpl2
    · rw [z]; exact hsl2
  refine ⟨_, rfl, L, _, rfl, SqL.of (s3 _ _ hL2), ?_⟩
  have tl2 : (txs ls).length = ls.length := List.length_map _
  have sHX : Same H H2 := sX.trans s2
  refine for_it walk_enum (fun i σ H' => Same H2 H' ∧ ∃ o5 o6 o7 vcs m, σ = [some (.ref pa), some (.ref L), some (.str (tx last)), some (.ref r), some (.bl m.ended), o5, o6, o7] ∧ PatS D.CT D.CP H' r pl sl vcs m.pieces (m.seams.map trimS) ∧ (∀ x ∈ own pl sl vcs, H2 x = none) ∧ SR.Made m ∧ m.seams.length ≤ i ∧ making 0 ⟨[], [], false⟩ (ls.take i) = .ok m)
    ⟨s3, none, none, none, [], ⟨[], [], false⟩, rfl, S3, own0, SR.Made.empty, Nat.le_refl _, rfl⟩ (fun i σ H' _ ⟨s4, _⟩ => SqL.of (s4 _ _ hL2)) (fun i x0 σ H4 H5 hi ⟨s4, o5, o6, o7, vcs, m, eσ, S4, ow, M, hms, hmk⟩ hy => ?_) (fun σ H4 ⟨s4, o5, o6, o7, vcs, m, eσ, S4, ow, M, hms, hmk⟩ => ?_)
  · subst eσ
    obtain ⟨Tp, x1, y1, rfl, hTp, rfl, f1, f2⟩ := hy
    injection f1 with f1
    subst f1
    have hil : i < ls.length := by omega
    have hli : ls[i]? = some ls[i] := List.getElem?_eq_getElem hil
    have f2 : (txs ls)[i]? = some y1 := f2
    rw [List.getElem?_map, hli] at f2
    obtain rfl : V.str (tx ls[i]) = y1 := Option.some.inj f2
    have hlp := lsub _ (List.mem_of_getElem? hli)
    generalize ls[i] = ln at hli hlp
    have lnlen := psh _ hlp
    have lnlow : Low ln := lowB.sub (pmem _ hlp)
    have s5 : Same H4 (upd H4 Tp (.tup [.int (i : Nat), .str (tx ln)])) := same_new hTp _
    refine ⟨Tp, _, rfl, SqT.of upd_same, rfl, _, _, rfl, _, _, rfl, rfl, ?_⟩
    generalize upd H4 Tp (.tup [.int (i : Nat), .str (tx ln)]) = H5 at s5 ⊢
    refine ⟨_, rfl, rfl, _, _, rfl, rfl, by decide +kernel, by rw [tx_len, sizeLine_eq]; omega, fun wl hwl => ?_⟩
    rw [split_sp]
    have s6 : Same H5 (upd H5 wl (.lst (((wordsOf ln).map tx).map V.str))) := same_new hwl _
    have hw6 : (upd H5 wl (.lst (((wordsOf ln).map tx).map V.str))) wl = some (.lst (txs (wordsOf ln))) := by rw [upd_same, List.map_map]; rfl
    generalize (upd H5 wl (.lst (((wordsOf ln).map tx).map V.str))) = H6 at s6 hw6 ⊢
    have s46 := s5.trans s6
    obtain ⟨mk1, mk2⟩ := making_at hmk hli
    have rsI : (SR.lineW (wordsOf ln)).bind m.next = none → Rs Z.cNo E (-2) [(i : Int), 0] := fun z => by
      refine rs i ?_
      rw [readPattern_is, ← els, mk1 z]
    refine ⟨_, rfl, _, rfl, ?_⟩
    cases he : m.ended with
    | true =>
      exact iteT (iteT (mk_noP T.no (rsI (bind_ended he _)) fun R k => ⟨_, rfl, k⟩))
    | false =>
      have wne : wordsOf ln ≠ [] := by rw [wordsOf_parts]; exact partsB_ne _ _
      have wlow : ∀ x ∈ wordsOf ln, Low x ∧ x.length ≤ 5000 := fun x hx => by
        rw [wordsOf_parts] at hx
        have := partsB_short 32 ln x hx
        exact ⟨lnlow.sub (partsB_mem 32 ln x hx), by omega⟩
      have wfew : (wordsOf ln).length ≤ 5000 := by
        rw [wordsOf_parts]
        have := partsB_len 32 ln
        omega
      refine iteF ⟨_, rfl, _, rfl, r, wl, pl, sl, vcs, wordsOf ln, m, rfl, ⟨hw6, wlow, wfew, S4.same s46, M, he, by omega⟩, fun _ => wne, fun k hk H7 g => ?_, fun hk H7 s7 => ?_⟩
      · obtain ⟨vcs', kp, S7, ow'⟩ := g
        obtain ⟨a1, a2⟩ := line_after he hk
        refine ⟨_, rfl, iteF ?_⟩
        have hw7 := kp _ _ hw6 (.inl fun z => by
          have q := ow _ z
          have q2 : H6 wl ≠ none := by rw [hw6]; simp
          have q3 := (s4.trans s46) 
          have : H5 wl = none := hwl
          rcases List.mem_cons.mp z with e | z'
          · rw [e] at this
            rw [s5 _ _ S4.pcs] at this
            cases this
          · rcases List.mem_cons.mp z' with e | z''
            · obtain ⟨svs, hsv, _⟩ := S4.sms
              rw [e] at this
              rw [s5 _ _ hsv] at this
              cases this
            · have := pat_alloc (S4.same s5) wl z''
              exact this hwl)
        refine ⟨_, rfl, by show 1 ≤ sizeLine; decide, fun tp htp => ?_⟩
        have eE : Str.ofString "end" = tx (ascii "end") := by decide +kernel
        have s8 : Same H7 (upd H7 tp (.lst (txs [ascii "end"]))) := same_new htp _
        have h8 : (upd H7 tp (.lst (txs [ascii "end"]))) tp = some (.lst (txs [ascii "end"])) := upd_same
        have e8 : upd H7 tp (.lst [.str (Str.ofString "end")]) = upd H7 tp (.lst (txs [ascii "end"])) := by rw [eE]; rfl
        rw [e8]
        generalize upd H7 tp (.lst (txs [ascii "end"])) = H8 at s8 h8 ⊢
        refine ⟨_, _, dp_strs (s8 _ _ hw7), dp_strs h8, shaped_strs (fun b hb => (wlow b hb).1), shaped_strs (fun b hb => by rw [List.mem_singleton.mp hb]; unfold Low; decide +kernel), ?_⟩
        have ev : PyData.eqv (.list ((wordsOf ln).map strD)) (.list ([ascii "end"].map strD)) = k.ended := by
          rw [a1]
          unfold PyData.eqv
          exact eqv_strs _ _
        have sK : Same H2 H8 := (same_kp (s4.trans s46) kp ow).trans s8
        refine ⟨sK, _, _, _, vcs', k, by rw [ev]; rfl, S7.same s8, fun x hx => ?_, line_made M hk, by omega, mk2 k hk⟩
        rcases ow' x hx with z | z
        · exact ow x z
        · exact (s4.trans s46).free z
      · refine ⟨_, rfl, iteT ?_⟩
        exact mk_noP T.no (rsI hk) fun R k => ⟨_, rfl, k⟩
  · subst eσ
    rw [tl2, List.take_length] at hmk
    have eq0 := readPattern_is B
    rw [← els, hmk, ← elast] at eq0
    have eq0 : readPattern B = if m.ended = true ∧ last = [] ∧ rest ⟨m.pieces, m.seams⟩ = true then .ok ⟨m.pieces, m.seams⟩ else .error ls.length := eq0
    have F := fine_made M
    obtain ⟨t1, t2⟩ := seams_trim F.few F.row m.seams []
    have rsL : ¬ (m.ended = true ∧ last = [] ∧ rest ⟨m.pieces, m.seams⟩ = true) → Rs Z.cNo E (-2) [(ls.length : Int), 0] := fun z => rs ls.length (by rw [eq0, if_neg z])
    have raise_ : ∀ H9, Same H2 H9 → Rs Z.cNo E (-2) [(ls.length : Int), 0] → tMkN Z.cNo (spNoP K) (tCons (tCB (fun xs H Q => ∃ p ys, xs = [V.ref p] ∧ (SqL K H p ys ∨ SqT K H p ys) ∧ Q (V.int ys.length) H) (tCons (tVar 1) tNil)) tNil) [some (.ref pa), some (.ref L), some (.str (tx last)), some (.ref r), some (.bl m.ended), o5, o6, o7] H9 E := fun H9 s9 q => by
      refine mk_noP (H1 := H9) T.no q fun R k => ⟨_, rfl, L, _, rfl, .inl (SqL.of (s9 _ _ hL2)), ?_⟩
      rw [tl2]
      exact k
    refine ⟨_, rfl, rfl, _, rfl, ?_⟩
    have dl : decide (V.str (tx last) = V.str (Str.ofString "")) = decide (last = []) := dec_empty last
    rw [dl]
    by_cases hlast : last = []
    case neg =>
      rw [decide_eq_false hlast]
      exact iteT (iteT (raise_ _ s4 (rsL fun z => hlast z.2.1)))
    rw [decide_eq_true hlast]
    refine iteF ⟨_, rfl, _, rfl, ?_⟩
    cases he : m.ended with
    | false =>
      refine iteT (iteT ?_)
      have q := raise_ _ s4 (rsL fun z => by rw [he] at z; cases z.1)
      rw [he] at q
      exact q
    | true =>
      obtain ⟨_, d3⟩ := M.done (.inr he)
      have ri := rest_is m.pieces m.seams
      refine iteF ⟨_, rfl, r, pl, sl, vcs, m.pieces, m.seams.map trimS, rfl, S4, F, d3, fun H5 s5 => ⟨_, rfl, ?_⟩⟩
      have s45 := s4.trans s5
      have eMay : mayBe m.pieces = (SeamPattern.noneTwice (m.pieces.map fun p => p.name) && m.pieces.all fun p => (p.grain != SeamNum.origin) && (SeamPoly.simple p.row && decide (0 < SeamPoly.area p.row))) := rfl
      rw [← eMay] at ri
      cases hmay : mayBe m.pieces with
      | false =>
        refine iteT (iteT ?_)
        have q := raise_ _ s45 (rsL fun z => by rw [ri, hmay] at z; cases z.2.2)
        rw [he] at q
        exact q
      | true =>
        rw [hmay, Bool.true_and] at ri
        refine iteF ⟨_, rfl, r, pl, sl, vcs, m.pieces, m.seams.map trimS, rfl, S4.same s5, F, by rw [List.length_map]; omega, fun H6 s6 => ⟨_, rfl, ?_⟩⟩
        rw [t1]
        have s46 := s45.trans s6
        cases hok : seamsOk m.pieces m.seams [] with
        | false =>
          refine iteT ?_
          have q := raise_ _ s46 (rsL fun z => by rw [ri, hok] at z; cases z.2.2)
          rw [he] at q
          exact q
        | true =>
          refine iteF ⟨_, rfl, ?_⟩
          have S6 := S4.same (s5.trans s6)
          rw [t2 hok] at S6
          refine good ⟨m.pieces, m.seams⟩ H6 r pl sl vcs ?_ (sHX.trans s46) S6 F (by show m.seams.length ≤ 4300; omega)
          rw [eq0, if_pos ⟨he, hlast, by rw [ri, hok]⟩]
end
end SDP
set_option Elab.async false
set_option linter.all false
set_option maxRecDepth 100000
set_option maxHeartbeats 4000000
set_option exponentiation.threshold 100000
/-! # NoPiece, piece_at -/
namespace SDP
open PySem PySem.Spec PyProof.Rows L2 SDX SD TL SR
open SeamNum (Bytes fits fitsP)
open SeamPattern (readPattern)
section
variable {P : Program} {w : World} {K : PySem.W.Frag} {mg : Str → Option Value} {base : Heap} {D : PAd} {A : AddF} {R : RefAd} {Z : ReadF}
def spNul (K : PySem.W.Frag) (n : Int) : Sp := fun vs H Q _ => ∃ (a C : Addr), vs = [.ref a] ∧ ExC K C ∧ PySem.W.findIn K (.ref C) "number" = some none ∧ PySem.W.findIn K (.ref C) "signed" = some none ∧ H a = some (exo a C none) ∧
  ∀ (d l : Addr) (H' : Hp), (∀ b o, b ≠ a → H b = some o → H' b = some o) → H d = none → l ≠ a → d ≠ a → H' a = some (exo a C (some d)) → H' d = some (exd d [("signed", .ref l), ("number", .int n)]) → H' l = some (.lst []) → Q .non H'
theorem scNoPc : FnScope ["self"] ["self"] (defScope S_NoPiece_I) := ⟨rfl, rfl, rfl, by decide +kernel, rfl, by decide +kernel, by decide +kernel⟩
theorem nul_pure {H : Hp} {a C : Addr} {Q : VK} {n : Int} (ha : H a = some (exo a C none)) (T : ExC K C) (hn : PySem.W.findIn K (.ref C) "number" = some none) (hs : PySem.W.findIn K (.ref C) "signed" = some none)
    (q : ∀ (d l : Addr) (H' : Hp), (∀ b o, b ≠ a → H b = some o → H' b = some o) → H d = none → l ≠ a → d ≠ a → H' a = some (exo a C (some d)) → H' d = some (exd d [("signed", .ref l), ("number", .int n)]) → H' l = some (.lst []) → Q .non H') (l : Addr) (hl : H l = none) {E : XK} :
    spRefI K [.ref a, .int n, .ref l] (upd H l (.lst [])) Q E := by
  have hla : l ≠ a := fun z => by rw [z, ha] at hl; cases hl
  refine ⟨a, C, l, n, rfl, T, hn, hs, ?_, fun d hd hda => ?_⟩
  · rw [upd_ne (Ne.symm hla)]
    exact ha
  have hdl : d ≠ l := fun z => by rw [z, upd_same] at hd; cases hd
  have hd0 : H d = none := by rw [upd_ne hdl] at hd; exact hd
  refine q d l _ (fun b o hb hbo => ?_) hd0 hla hda ?_ upd_same ?_
  · rw [upd_ne (ne_of_none hbo hd0), upd_ne hb, upd_ne (ne_of_none hbo hd0), upd_ne (ne_of_none hbo hl)]
    exact hbo
  · rw [upd_ne (Ne.symm hda), upd_same]
  · rw [upd_ne (Ne.symm hdl), upd_ne hla, upd_ne (Ne.symm hdl), upd_same]
theorem ok_noPc {f f1 C1 : Addr} {fd fd1 : FuncData} {mc : Value} (F : L2.Fun K "__init__" "NoPiece.__init__" S_NoPiece_I f fd) (F1 : L2.Fun K "__init__" "Refusal.__init__" sRefI f1 fd1) (b1 : L2.Binds K fd1 ["self", "number", "signed"] [])
    (g1 : mg "Refusal" = some (.ref C1)) (cr : ClX.CRead K C1 mc) (cv : PySem.W.findCls K (.ref C1) mc "__init__" = some (.val (.ref f1)))
    (mE : mg "Exception" = none) (vE : PySem.W.findCls K (.type "Exception") (.type "type") "__init__" = some (.val (.builtin "Exception.__init__"))) :
    FnOk P w K mg base CX0 2 f fd ["self"] (spNul K (-4)) := by
  refine F.ok scNoPc (fun vs H Q E h => ?_) (fun cdv A outer s H vs Q E hr h => ?_)
  · obtain ⟨a, C, rfl, _⟩ := h
    rfl
  obtain ⟨a, C, rfl, T, hn, hs, ha, q⟩ := h
  refine ⟨_, pss_one (ps_expr (pe_cfun (ok_refI F1 mE vE) hr rfl g1 cr cv F1.kp b1 .nil pass0 (pa_cons (pv 0) (pa_cons (pe_un un_neg pe_int) (pa_cons (pe_lst pa_nil) pa_nil))))), ?_⟩
  exact ⟨_, rfl, _, rfl, (by show 0 ≤ sizeLine; decide), fun l hl => nul_pure (E := E0) ha T hn hs q l hl⟩
theorem mk_nul {σ : L2.St} {H : Hp} {C f : Addr} {E : XK} {x : Str} {n : Int} (T : ErrC K mg x C f) (rs : Rs C E n []) : tMkN C (spNul K n) tNil σ H E := by
  refine ⟨by show 0 ≤ 1000; decide, fun a ha => ⟨a, C, rfl, T.ex, T.noN, T.noS, upd_same, fun d l H' keep hd hla hda ea ed el => ⟨rfl, d, _, ea, ed, ?_, ?_⟩⟩⟩
  · rw [upd_ne hda] at hd
    exact hd
  · have hdl : d ≠ l := fun z => by
      rw [z, el] at ed
      cases ed
    exact rs_made (H1 := H) rs hla hdl el
/-! ### piece_at -/
structure PaF where
  cN : Addr
  fN : Addr
  dN : FuncData
  fP : Addr
  dP : FuncData
structure PaT (K : PySem.W.Frag) (mg : Str → Option Value) (R : RefAd) (Y : PaF) : Prop where
  no : ErrC K mg "NoPiece" Y.cN Y.fN
  FN : L2.Fun K "__init__" "NoPiece.__init__" S_NoPiece_I Y.fN Y.dN
  bN : L2.Binds K Y.dN ["self"] []
  xN : PySem.W.exmOne K (.ref Y.cN) (.ref R.cRef) = some true
  P : Fn1 K mg "piece_at" S_piece_at ["pattern", "k"] Y.fP Y.dP
variable {Y : PaF}
def spPieceAt (D : PAd) (Y : PaF) : Sp := fun vs H Q E => ∃ r pl sl vcs ps ss, ∃ k : Nat, vs = [.ref r, .int k] ∧ PatS D.CT D.CP H r pl sl vcs ps ss ∧ (∀ p v cl, ps[k]? = some p → PcAt D.CP H v cl p → Q v H) ∧ (ps[k]? = none → Rs Y.cN E (-4) [])
theorem scPieceAt : FnScope ["pattern", "k"] ["pattern", "k"] (defScope S_piece_at) := ⟨rfl, rfl, rfl, by decide +kernel, rfl, by decide +kernel, by decide +kernel⟩
theorem ok_pieceAt (RC : RefC K mg R) (C : PatC K mg D) (T : PaT K mg R Y) (ml : mg "len" = none) : FnOk P w K mg base (L2N.CX P w) 4 Y.fP Y.dP ["pattern", "k"] (spPieceAt D Y) := by
  refine okN T.P.F scPieceAt (fun vs H Q E h => ?_) (fun cdv A0 outer s H vs Q E hr h => ?_)
  · obtain ⟨r, pl, sl, vcs, ps, ss, k, rfl, _⟩ := h
    rfl
  obtain ⟨r, pl, sl, vcs, ps, ss, k, rfl, S, good, rs⟩ := h
  have hr3 : Room 3 _ := hr.mono (by omega)
  have tk := L2N.takes_of (X := cxOf (L2N.CX P w) P w K mg base ["pattern", "k"] "piece_at" (defScope S_piece_at) Y.fP cdv A0 outer s H E) (E := E) rfl rfl rfl rfl
  refine ⟨_, pss_cons (ps_if (pt_cmpR op_ge (pv 1) (pe_callB call_len_seq rfl ml PySem.boot_len (pa_cons (pe_fld (pv 0) rfl) pa_nil)) (nomark _))
      (pss_one (L2N.ps_raise rfl tk (pmk_exN0 T.no.ex T.no.iC T.no.tI (ok_noPc T.FN RC.FRef RC.bRef RC.ref.g RC.cr RC.cv RC.mE RC.vE) hr3 T.bN pass0 rfl T.no.g))) pss_nil)
    (pss_one (ps_ret (pe_ix ix_list (pe_fld (pv 0) rfl) (pv 1) (fun _ _ => rfl)))), ?_⟩
  obtain ⟨dx, ei⟩ := S.ins
  refine ⟨_, rfl, _, rfl, r, D.CT, dx, _, _, rfl, ei, C.clT, C.nTp, rfl, pl, _, rfl, .inl (SqL.of S.pcs), _, _, rfl, rfl, _, rfl, ?_⟩
  rw [pat_len S]
  refine ite2 (fun c => ?_) (fun c => ?_)
  · have c' : ps.length ≤ k := by have := of_decide_eq_true c; omega
    exact mk_nul T.no (rs (List.getElem?_eq_none c'))
  · have c' : k < ps.length := by have := of_decide_eq_false (Bool.eq_false_iff.mpr c); omega
    have hp : ps[k]? = some ps[k] := List.getElem?_eq_getElem c'
    obtain ⟨v, cl, gv, q⟩ := pat_at S hp
    exact ⟨_, rfl, r, D.CT, dx, _, _, rfl, ei, C.clT, C.nTp, rfl, _, rfl, pl, _, _, v, rfl, rfl, SqL.of S.pcs, atI_nat (j := k) gv, good _ v cl hp q⟩
theorem right_piece {Pt : SeamPattern.Pattern} (h : Pt.right = true) {p : SeamPattern.Piece} (hp : p ∈ Pt.pieces) : 3 ≤ p.row.length ∧ p.name.length ≤ 16 := by
  unfold SeamPattern.Pattern.right at h
  simp only [Bool.and_eq_true, List.all_eq_true] at h
  have q := h.2.2.1 p hp
  unfold SeamPattern.Piece.right SeamPoly.rowRight at q
  simp only [Bool.and_eq_true, decide_eq_true_eq] at q
  refine ⟨q.2.1.1, ?_⟩
  have n := q.1
  rw [isName_is] at n
  simp only [Bool.and_eq_true, decide_eq_true_eq] at n
  exact n.2.1
end
end SDP
set_option Elab.async false
set_option linter.all false
set_option maxRecDepth 100000
set_option maxHeartbeats 4000000
set_option exponentiation.threshold 100000
/-! # A point handed in -/
namespace SDP
open PySem PySem.Spec PyProof.Rows L2 SDX SD TL SR
open SeamNum (Bytes fits fitsP FINE Point)
section
variable {P : Program} {w : World} {K : PySem.W.Frag} {mg : Str → Option Value} {base : Heap} {R : RefAd}
theorem numOf_yes {a b : Int} {q : Rat} (hb : 0 < b) (h : Rep q a b) (hf : fits q = true) (h1 : q.num = a) (h2 : (q.den : Int) = b) : Drafts.numOf a b = some q := by
  unfold Drafts.numOf
  have g : Int.gcd a b = 1 := by
    rw [← h1, ← h2]
    exact q.reduced
  unfold SeamNum.fits at hf
  simp only [Bool.and_eq_true, decide_eq_true_eq] at hf
  rw [if_pos ⟨by omega, g, by rw [← h1]; exact hf.1, by rw [← h2]; exact hf.2⟩]
  congr 1
  rw [← Rat.divInt_eq_div]
  exact h.2.symm
theorem numOf_low {a b : Int} (hb : b ≤ 0) : Drafts.numOf a b = none := by
  unfold Drafts.numOf
  rw [if_neg (by omega)]
theorem numOf_some {a b : Int} {q : Rat} (h : Rep q a b) {x : Rat} (e : Drafts.numOf a b = some x) : x = q ∧ fits q = true ∧ q.num = a ∧ (q.den : Int) = b := by
  unfold Drafts.numOf at e
  split at e
  · rename_i z
    obtain ⟨z1, z2, z3, z4⟩ := z
    obtain ⟨e1, e2⟩ := h.red z2
    have ex : x = q := by
      have : (a : Rat) / (b : Rat) = x := Option.some.inj e
      rw [← this, ← Rat.divInt_eq_div]
      exact h.2.symm
    refine ⟨ex, ?_, e1, e2⟩
    unfold SeamNum.fits
    simp only [Bool.and_eq_true, decide_eq_true_eq]
    rw [e1]
    exact ⟨z3, by omega⟩
  · cases e
structure PnF where
  cP : Addr
  fP : Addr
  dP : FuncData
  fN : Addr
  dN : FuncData
  fI : Addr
  dI : FuncData
structure PnT (K : PySem.W.Frag) (mg : Str → Option Value) (R : RefAd) (P : Program) (base : Heap) (V : PnF) : Prop where
  no : ErrC K mg "NoPoint" V.cP V.fP
  FP : L2.Fun K "__init__" "NoPoint.__init__" S_NoPoint_I V.fP V.dP
  bP : L2.Binds K V.dP ["self"] []
  xP : PySem.W.exmOne K (.ref V.cP) (.ref R.cRef) = some true
  N : Fn1 K mg "number_handed_in" S_number_handed_in ["above", "below"] V.fN V.dN
  I : Fn1 K mg "point_handed_in" S_point_handed_in ["x_above", "x_below", "y_above", "y_below"] V.fI V.dI
  low : ∃ fL fM dL dM, LowT K mg P base fL fM dL dM
variable {V : PnF}
theorem scNoPt : FnScope ["self"] ["self"] (defScope S_NoPoint_I) := ⟨rfl, rfl, rfl, by decide +kernel, rfl, by decide +kernel, by decide +kernel⟩
theorem ok_noPt {f f1 C1 : Addr} {fd fd1 : FuncData} {mc : Value} (F : L2.Fun K "__init__" "NoPoint.__init__" S_NoPoint_I f fd) (F1 : L2.Fun K "__init__" "Refusal.__init__" sRefI f1 fd1) (b1 : L2.Binds K fd1 ["self", "number", "signed"] [])
    (g1 : mg "Refusal" = some (.ref C1)) (cr : ClX.CRead K C1 mc) (cv : PySem.W.findCls K (.ref C1) mc "__init__" = some (.val (.ref f1)))
    (mE : mg "Exception" = none) (vE : PySem.W.findCls K (.type "Exception") (.type "type") "__init__" = some (.val (.builtin "Exception.__init__"))) :
    FnOk P w K mg base CX0 2 f fd ["self"] (spNul K (-1)) := by
  refine F.ok scNoPt (fun vs H Q E h => ?_) (fun cdv A outer s H vs Q E hr h => ?_)
  · obtain ⟨a, C, rfl, _⟩ := h
    rfl
  obtain ⟨a, C, rfl, T, hn, hs, ha, q⟩ := h
  refine ⟨_, pss_one (ps_expr (pe_cfun (ok_refI F1 mE vE) hr rfl g1 cr cv F1.kp b1 .nil pass0 (pa_cons (pv 0) (pa_cons (pe_un un_neg pe_int) (pa_cons (pe_lst pa_nil) pa_nil))))), ?_⟩
  exact ⟨_, rfl, _, rfl, (by show 0 ≤ sizeLine; decide), fun l hl => nul_pure (E := E0) ha T hn hs q l hl⟩
def spNumIn (V : PnF) : Sp := fun vs H Q E => ∃ a b : Int, vs = [.int a, .int b] ∧ a.natAbs < 2 ^ 100 ∧ b.natAbs < 2 ^ 100 ∧ (∀ q H' p, Drafts.numOf a b = some q → Same H H' → H p = none → H' p = some (two q.num q.den) → Q (.ref p) H') ∧ (Drafts.numOf a b = none → Rs V.cP E (-1) [])
theorem scNumIn : FnScope ["above", "below"] ["above", "below"] (defScope S_number_handed_in) := ⟨rfl, rfl, rfl, by decide +kernel, rfl, by decide +kernel, by decide +kernel⟩
theorem dp_two {H : Hp} {p : Addr} {n d : Int} (h : H p = some (two n d)) : Dp K H (.ref p) (.tuple [.int n, .int d]) := .tup (SqT.of h) (.cons (.int _) (.cons (.int _) .nil))
theorem eqv_two (a b c d : Int) : PyData.eqv (.tuple [.int a, .int b]) (.tuple [.int c, .int d]) = decide (a = c ∧ b = d) := by
  rw [Bool.eq_iff_iff]
  simp [PyData.eqv, PyData.eqvAll]
theorem ok_numIn (RC : RefC K mg R) (T : PnT K mg R P base V) : FnOk P w K mg base (L2N.CX P w) 34 V.fN V.dN ["above", "below"] (spNumIn V) := by
  refine okN T.N.F scNumIn (fun vs H Q E h => ?_) (fun cdv A0 outer s H vs Q E hr h => ?_)
  · obtain ⟨a, b, rfl, _⟩ := h
    rfl
  obtain ⟨a, b, rfl, ha, hb, good, rs⟩ := h
  obtain ⟨fL, fM, dL, dM, TL⟩ := T.low
  have hr3 : Room 3 _ := hr.mono (by omega)
  have hu : _ + 64 < cLine := hr.units
  have tk := L2N.takes_of (X := cxOf (L2N.CX P w) P w K mg base ["above", "below"] "number_handed_in" (defScope S_number_handed_in) V.fN cdv A0 outer s H E) (E := E) rfl rfl rfl rfl
  refine ⟨_, pss_cons (ps_if (PW.pt (pw_or (pt_cmpR op_le (pv 1) pe_int (nomark _)) (pw_or1 (pt_cmpR (op_neD hr.units) (pe_call (ok_low TL) hr rfl TL.L.m TL.L.F.kp TL.L.b .nil pass0 (pa_cons (pe_tup (pa_cons (pv 0) (pa_cons (pv 1) pa_nil))) pa_nil)) (pe_tup (pa_cons (pv 0) (pa_cons (pv 1) pa_nil))) (nomark _)))))
      (pss_one (L2N.ps_raise rfl tk (pmk_exN0 T.no.ex T.no.iC T.no.tI (ok_noPt T.FP RC.FRef RC.bRef RC.ref.g RC.cr RC.cv RC.mE RC.vE) hr3 T.bP pass0 rfl T.no.g))) pss_nil)
    (pss_one (ps_ret (pe_tup (pa_cons (pv 0) (pa_cons (pv 1) pa_nil))))), ?_⟩
  refine ⟨_, rfl, _, _, rfl, rfl, _, rfl, ?_⟩
  by_cases hb0 : b ≤ 0
  · rw [decide_eq_true hb0]
    exact iteT (iteT (mk_nul T.no (rs (numOf_low hb0))))
  · rw [decide_eq_false hb0]
    have bp : 0 < b := by omega
    have rep : Rep (Rat.divInt a b) a b := ⟨bp, rfl⟩
    have yes := fun (x : Rat) (e : Drafts.numOf a b = some x) => numOf_some rep e
    have big : ∀ z : Int, z.natAbs < 2 ^ 100 → z.natAbs < 2 ^ BIG := fun z hz => Nat.lt_of_lt_of_le hz (Nat.pow_le_pow_right (by decide) (by unfold BIG; decide))
    generalize hq : Rat.divInt a b = q at rep yes
    refine iteF ⟨_, rfl, _, rfl, by show 2 ≤ sizeLine; decide, fun t ht => ?_⟩
    refine ⟨_, a, b, q, rfl, Tw.of upd_same, rep, big a ha, big b hb, fun H2 p s2 hp hf e2 => ?_, fun H2 s2 hf => ?_⟩
    · have s3 := (same_new ht (two a b)).trans s2
      refine ⟨_, rfl, _, rfl, by show 2 ≤ sizeLine; decide, fun u hu' => ?_⟩
      have s4 := s3.trans (same_new hu' (two a b))
      refine ⟨_, _, dp_two (by rw [upd_ne (ne_of_none e2 hu')]; exact e2), dp_two upd_same, rfl, rfl, _, rfl, ?_⟩
      rw [eqv_two]
      by_cases z : q.num = a ∧ (q.den : Int) = b
      · rw [decide_eq_true z]
        refine iteF ⟨_, rfl, _, rfl, by show 2 ≤ sizeLine; decide, fun v hv => ?_⟩
        refine good q _ v (numOf_yes bp rep hf z.1 z.2) (s4.trans (same_new hv _)) (s4.free hv) ?_
        rw [upd_same, z.1, z.2]
        rfl
      · rw [decide_eq_false z]
        refine iteT (mk_nul T.no (rs ?_))
        cases e : Drafts.numOf a b with
        | none => rfl
        | some x => exact absurd (yes x e).2.2 z
    · refine ⟨_, rfl, _, rfl, by show 2 ≤ sizeLine; decide, fun u hu' => ?_⟩
      refine ⟨_, _, .non, dp_two upd_same, rfl, rfl, _, rfl, ?_⟩
      refine iteT (mk_nul T.no (rs ?_))
      cases e : Drafts.numOf a b with
      | none => rfl
      | some x =>
        have := (yes x e).2.1
        rw [hf] at this
        cases this
def spPtIn (V : PnF) : Sp := fun vs H Q E => ∃ a b c d : Int, vs = [.int a, .int b, .int c, .int d] ∧ a.natAbs < 2 ^ 100 ∧ b.natAbs < 2 ^ 100 ∧ c.natAbs < 2 ^ 100 ∧ d.natAbs < 2 ^ 100 ∧
  (∀ q H' v, Drafts.pointOf a b c d = some q → Same H H' → PtAt H' v q → Q v H') ∧ (Drafts.pointOf a b c d = none → Rs V.cP E (-1) [])
theorem scPtIn : FnScope ["x_above", "x_below", "y_above", "y_below"] ["x_above", "x_below", "y_above", "y_below"] (defScope S_point_handed_in) := ⟨rfl, rfl, rfl, by decide +kernel, rfl, by decide +kernel, by decide +kernel⟩
theorem pointOf_fits {a b c d : Int} {q : Point} (h : Drafts.pointOf a b c d = some q) : fitsP q = true := by
  unfold Drafts.pointOf at h
  have one : ∀ {a b : Int} {x : Rat}, Drafts.numOf a b = some x → fits x = true := fun {a b x} e => by
    have bp : 0 < b := by
      unfold Drafts.numOf at e
      split at e
      · rename_i z; omega
      · cases e
    have rep : Rep (Rat.divInt a b) a b := ⟨bp, rfl⟩
    obtain ⟨e1, e2, _⟩ := numOf_some rep e
    rw [e1]; exact e2
  cases hx : Drafts.numOf a b with
  | none => rw [hx] at h; cases h
  | some x =>
    rw [hx] at h
    cases hy : Drafts.numOf c d with
    | none => rw [hy] at h; cases h
    | some y =>
      rw [hy] at h
      obtain rfl : (x, y) = q := Option.some.inj h
      unfold SeamNum.fitsP
      rw [one hx, one hy]
      rfl
theorem ok_ptIn (RC : RefC K mg R) (T : PnT K mg R P base V) : FnOk P w K mg base (L2N.CX P w) 35 V.fI V.dI ["x_above", "x_below", "y_above", "y_below"] (spPtIn V) := by
  refine okN T.I.F scPtIn (fun vs H Q E h => ?_) (fun cdv A0 outer s H vs Q E hr h => ?_)
  · obtain ⟨a, b, c, d, rfl, _⟩ := h
    rfl
  obtain ⟨a, b, c, d, rfl, ha, hb, hc, hd, good, rs⟩ := h
  refine ⟨_, pss_one (ps_ret (pe_tup (pa_cons (pe_call (ok_numIn RC T) hr rfl T.N.m T.N.F.kp T.N.b .nil passN (pa_cons (pv 0) (pa_cons (pv 1) pa_nil))) (pa_cons (pe_call (ok_numIn RC T) hr rfl T.N.m T.N.F.kp T.N.b .nil passN (pa_cons (pv 2) (pa_cons (pv 3) pa_nil))) pa_nil)))), ?_⟩
  unfold Drafts.pointOf at good rs
  refine ⟨_, rfl, _, rfl, a, b, rfl, ha, hb, fun q H1 p eq s1 hp e1 => ?_, fun en => ?_⟩
  · rw [eq] at good rs
    refine ⟨_, rfl, _, rfl, c, d, rfl, hc, hd, fun q2 H2 p2 eq2 s2 hp2 e2 => ?_, fun en => ?_⟩
    · rw [eq2] at good
      refine ⟨by show 2 ≤ sizeLine; decide, fun t ht => ?_⟩
      refine good (q, q2) _ (.ref t) rfl ((s1.trans s2).trans (same_new ht _)) ⟨t, .ref p, .ref p2, rfl, upd_same, ⟨p, rfl, ?_⟩, ⟨p2, rfl, ?_⟩⟩
      · rw [upd_ne (ne_of_none (s2 _ _ e1) ht)]
        exact s2 _ _ e1
      · rw [upd_ne (ne_of_none e2 ht)]
        exact e2
    · rw [en] at rs
      exact rs rfl
  · rw [en] at rs
    exact rs rfl
end
end SDP
set_option Elab.async false
set_option linter.all false
set_option maxRecDepth 100000
set_option maxHeartbeats 4000000
/-! # What the top has left -/
namespace SDP
open PySem PySem.Spec PyProof.Rows L2 SDX SD TL
open SeamNum (Bytes)
def strEq : List Value → List Str → Bool
  | [], [] => true
  | .str z _ :: r, y :: s => decide (z = y) && strEq r s
  | _, _ => false
theorem strEq_vals : ∀ {l : List Value} {zs : List Str}, strEq l zs = true → Vals (zs.map V.str) l
  | [], [], _ => .nil
  | .str z t :: r, y :: s, h => by
    have h2 : (decide (z = y) && strEq r s) = true := h
    obtain ⟨h3, h4⟩ := Bool.and_eq_true_iff.mp h2
    have e : z = y := of_decide_eq_true h3
    subst e
    exact .cons ⟨t, rfl⟩ (strEq_vals h4)
def tupB (o : Obj) (zs : List Str) : Bool := (match o.cls with
  | .type c => decide (c = "tuple")
  | _ => false) && (match o.data with
  | .seq its _ => decide (its.size ≤ 100) && strEq its.toList zs
  | _ => false)
theorem tupB_ok {K : PySem.W.Frag} {p : Addr} {o : Obj} {zs : List Str} (l : K.lookup p = some o) (h : tupB o zs = true) (H : Hp) : SqT K H p (zs.map V.str) := by
  unfold tupB at h
  obtain ⟨h1, h2⟩ := Bool.and_eq_true_iff.mp h
  have hc : o.cls = .type "tuple" := by
    revert h1
    cases o.cls with
    | type c =>
      intro h1
      rw [of_decide_eq_true h1]
    | _ => intro h1; cases h1
  revert h2
  cases e : o.data with
  | seq its n =>
    intro h2
    obtain ⟨h3, h4⟩ := Bool.and_eq_true_iff.mp h2
    have h5 : its.size ≤ 100 := of_decide_eq_true h3
    exact .inr ⟨o, its, n, l, hc, e, by rw [sizeLine_eq]; omega, strEq_vals h4⟩
  | _ => intro h2; cases h2
section
variable {w : World} {K : PySem.W.Frag} {h : Heap} {mg : Str → Option Value}
theorem mk_gi (X : K.In h) (G : h.Ns mainGlobals mg) {x : Str} {n : Int} {t : Tok} (a : PySem.W.nsIn K mainGlobals x = some (some (.int n t))) : Gi mg x n := ⟨t, PySem.W.mg_of X G a⟩
theorem mk_gs (X : K.In h) (G : h.Ns mainGlobals mg) {x z : Str} {b : Bytes} {t : Tok} (a : PySem.W.nsIn K mainGlobals x = some (some (.str z t))) (e : decide (z = tx b) = true) : Gs mg x b := ⟨t, by rw [← of_decide_eq_true e]; exact PySem.W.mg_of X G a⟩
theorem mk_gt (X : K.In h) (G : h.Ns mainGlobals mg) {x : Str} {p : Addr} {o : Obj} {l : List Bytes} (a : PySem.W.nsIn K mainGlobals x = some (some (.ref p))) (lk : K.lookup p = some o) (e : tupB o (l.map tx) = true) : Gt K mg x l := by
  refine ⟨p, PySem.W.mg_of X G a, fun H => ?_⟩
  have q := tupB_ok lk e H
  rw [List.map_map] at q
  exact q
theorem mk_none (X : K.In h) (G : h.Ns mainGlobals mg) {x : Str} (a : PySem.W.nsIn K mainGlobals x = some none) : mg x = none := PySem.W.mg_none_of X G a
theorem mk_upright (X : K.In h) (G : h.Ns mainGlobals mg) {f : Addr} {oc : Value} {od an : Option Addr} {osl : Array (Option Value)} {kV doc pm cdv ct : Value} (a : PySem.W.nsIn K mainGlobals "upright" = some (some (.ref f))) (l : K.lookup f = some ⟨oc, od, .func (PySem.W.fnOf "upright" "upright" (defArgs S_upright) (defBody S_upright) (defScope S_upright) .none kV doc pm an cdv ct), osl⟩) (c : PySem.W.codeIn K cdv "upright" = true) (k : PySem.W.keepIn K (.ref f) = true) :
    Fn1 K mg "upright" S_upright ["above", "below"] f (PySem.W.fnOf "upright" "upright" (defArgs S_upright) (defBody S_upright) (defScope S_upright) .none kV doc pm an cdv ct) := ⟨fun_mk l c k, L2.Binds.all fun us hl => match us, hl with | [_, _], _ => rfl, PySem.W.mg_of X G a⟩
theorem mk_plus (X : K.In h) (G : h.Ns mainGlobals mg) {f : Addr} {oc : Value} {od an : Option Addr} {osl : Array (Option Value)} {kV doc pm cdv ct : Value} (a : PySem.W.nsIn K mainGlobals "plus" = some (some (.ref f))) (l : K.lookup f = some ⟨oc, od, .func (PySem.W.fnOf "plus" "plus" (defArgs S_plus) (defBody S_plus) (defScope S_plus) .none kV doc pm an cdv ct), osl⟩) (c : PySem.W.codeIn K cdv "plus" = true) (k : PySem.W.keepIn K (.ref f) = true) :
    Fn1 K mg "plus" S_plus ["a", "b"] f (PySem.W.fnOf "plus" "plus" (defArgs S_plus) (defBody S_plus) (defScope S_plus) .none kV doc pm an cdv ct) := ⟨fun_mk l c k, L2.Binds.all fun us hl => match us, hl with | [_, _], _ => rfl, PySem.W.mg_of X G a⟩
theorem mk_minus (X : K.In h) (G : h.Ns mainGlobals mg) {f : Addr} {oc : Value} {od an : Option Addr} {osl : Array (Option Value)} {kV doc pm cdv ct : Value} (a : PySem.W.nsIn K mainGlobals "minus" = some (some (.ref f))) (l : K.lookup f = some ⟨oc, od, .func (PySem.W.fnOf "minus" "minus" (defArgs S_minus) (defBody S_minus) (defScope S_minus) .none kV doc pm an cdv ct), osl⟩) (c : PySem.W.codeIn K cdv "minus" = true) (k : PySem.W.keepIn K (.ref f) = true) :
    Fn1 K mg "minus" S_minus ["a", "b"] f (PySem.W.fnOf "minus" "minus" (defArgs S_minus) (defBody S_minus) (defScope S_minus) .none kV doc pm an cdv ct) := ⟨fun_mk l c k, L2.Binds.all fun us hl => match us, hl with | [_, _], _ => rfl, PySem.W.mg_of X G a⟩
theorem mk_times (X : K.In h) (G : h.Ns mainGlobals mg) {f : Addr} {oc : Value} {od an : Option Addr} {osl : Array (Option Value)} {kV doc pm cdv ct : Value} (a : PySem.W.nsIn K mainGlobals "times" = some (some (.ref f))) (l : K.lookup f = some ⟨oc, od, .func (PySem.W.fnOf "times" "times" (defArgs S_times) (defBody S_times) (defScope S_times) .none kV doc pm an cdv ct), osl⟩) (c : PySem.W.codeIn K cdv "times" = true) (k : PySem.W.keepIn K (.ref f) = true) :
    Fn1 K mg "times" S_times ["a", "b"] f (PySem.W.fnOf "times" "times" (defArgs S_times) (defBody S_times) (defScope S_times) .none kV doc pm an cdv ct) := ⟨fun_mk l c k, L2.Binds.all fun us hl => match us, hl with | [_, _], _ => rfl, PySem.W.mg_of X G a⟩
theorem mk_over (X : K.In h) (G : h.Ns mainGlobals mg) {f : Addr} {oc : Value} {od an : Option Addr} {osl : Array (Option Value)} {kV doc pm cdv ct : Value} (a : PySem.W.nsIn K mainGlobals "over" = some (some (.ref f))) (l : K.lookup f = some ⟨oc, od, .func (PySem.W.fnOf "over" "over" (defArgs S_over) (defBody S_over) (defScope S_over) .none kV doc pm an cdv ct), osl⟩) (c : PySem.W.codeIn K cdv "over" = true) (k : PySem.W.keepIn K (.ref f) = true) :
    Fn1 K mg "over" S_over ["a", "b"] f (PySem.W.fnOf "over" "over" (defArgs S_over) (defBody S_over) (defScope S_over) .none kV doc pm an cdv ct) := ⟨fun_mk l c k, L2.Binds.all fun us hl => match us, hl with | [_, _], _ => rfl, PySem.W.mg_of X G a⟩
theorem mk_negative (X : K.In h) (G : h.Ns mainGlobals mg) {f : Addr} {oc : Value} {od an : Option Addr} {osl : Array (Option Value)} {kV doc pm cdv ct : Value} (a : PySem.W.nsIn K mainGlobals "negative" = some (some (.ref f))) (l : K.lookup f = some ⟨oc, od, .func (PySem.W.fnOf "negative" "negative" (defArgs S_negative) (defBody S_negative) (defScope S_negative) .none kV doc pm an cdv ct), osl⟩) (c : PySem.W.codeIn K cdv "negative" = true) (k : PySem.W.keepIn K (.ref f) = true) :
    Fn1 K mg "negative" S_negative ["a"] f (PySem.W.fnOf "negative" "negative" (defArgs S_negative) (defBody S_negative) (defScope S_negative) .none kV doc pm an cdv ct) := ⟨fun_mk l c k, L2.Binds.all fun us hl => match us, hl with | [_], _ => rfl, PySem.W.mg_of X G a⟩
theorem mk_alike (X : K.In h) (G : h.Ns mainGlobals mg) {f : Addr} {oc : Value} {od an : Option Addr} {osl : Array (Option Value)} {kV doc pm cdv ct : Value} (a : PySem.W.nsIn K mainGlobals "alike" = some (some (.ref f))) (l : K.lookup f = some ⟨oc, od, .func (PySem.W.fnOf "alike" "alike" (defArgs S_alike) (defBody S_alike) (defScope S_alike) .none kV doc pm an cdv ct), osl⟩) (c : PySem.W.codeIn K cdv "alike" = true) (k : PySem.W.keepIn K (.ref f) = true) :
    Fn1 K mg "alike" S_alike ["a", "b"] f (PySem.W.fnOf "alike" "alike" (defArgs S_alike) (defBody S_alike) (defScope S_alike) .none kV doc pm an cdv ct) := ⟨fun_mk l c k, L2.Binds.all fun us hl => match us, hl with | [_, _], _ => rfl, PySem.W.mg_of X G a⟩
theorem mk_lowest (X : K.In h) (G : h.Ns mainGlobals mg) {f : Addr} {oc : Value} {od an : Option Addr} {osl : Array (Option Value)} {kV doc pm cdv ct : Value} (a : PySem.W.nsIn K mainGlobals "lowest" = some (some (.ref f))) (l : K.lookup f = some ⟨oc, od, .func (PySem.W.fnOf "lowest" "lowest" (defArgs S_lowest) (defBody S_lowest) (defScope S_lowest) .none kV doc pm an cdv ct), osl⟩) (c : PySem.W.codeIn K cdv "lowest" = true) (k : PySem.W.keepIn K (.ref f) = true) :
    Fn1 K mg "lowest" S_lowest ["number"] f (PySem.W.fnOf "lowest" "lowest" (defArgs S_lowest) (defBody S_lowest) (defScope S_lowest) .none kV doc pm an cdv ct) := ⟨fun_mk l c k, L2.Binds.all fun us hl => match us, hl with | [_], _ => rfl, PySem.W.mg_of X G a⟩
theorem mk_number_text (X : K.In h) (G : h.Ns mainGlobals mg) {f : Addr} {oc : Value} {od an : Option Addr} {osl : Array (Option Value)} {kV doc pm cdv ct : Value} (a : PySem.W.nsIn K mainGlobals "number_text" = some (some (.ref f))) (l : K.lookup f = some ⟨oc, od, .func (PySem.W.fnOf "number_text" "number_text" (defArgs S_number_text) (defBody S_number_text) (defScope S_number_text) .none kV doc pm an cdv ct), osl⟩) (c : PySem.W.codeIn K cdv "number_text" = true) (k : PySem.W.keepIn K (.ref f) = true) :
    Fn1 K mg "number_text" S_number_text ["number"] f (PySem.W.fnOf "number_text" "number_text" (defArgs S_number_text) (defBody S_number_text) (defScope S_number_text) .none kV doc pm an cdv ct) := ⟨fun_mk l c k, L2.Binds.all fun us hl => match us, hl with | [_], _ => rfl, PySem.W.mg_of X G a⟩
theorem mk_whole_of (X : K.In h) (G : h.Ns mainGlobals mg) {f : Addr} {oc : Value} {od an : Option Addr} {osl : Array (Option Value)} {kV doc pm cdv ct : Value} (a : PySem.W.nsIn K mainGlobals "whole_of" = some (some (.ref f))) (l : K.lookup f = some ⟨oc, od, .func (PySem.W.fnOf "whole_of" "whole_of" (defArgs S_whole_of) (defBody S_whole_of) (defScope S_whole_of) .none kV doc pm an cdv ct), osl⟩) (c : PySem.W.codeIn K cdv "whole_of" = true) (k : PySem.W.keepIn K (.ref f) = true) :
    Fn1 K mg "whole_of" S_whole_of ["digits"] f (PySem.W.fnOf "whole_of" "whole_of" (defArgs S_whole_of) (defBody S_whole_of) (defScope S_whole_of) .none kV doc pm an cdv ct) := ⟨fun_mk l c k, L2.Binds.all fun us hl => match us, hl with | [_], _ => rfl, PySem.W.mg_of X G a⟩
theorem mk_number_of (X : K.In h) (G : h.Ns mainGlobals mg) {f : Addr} {oc : Value} {od an : Option Addr} {osl : Array (Option Value)} {kV doc pm cdv ct : Value} (a : PySem.W.nsIn K mainGlobals "number_of" = some (some (.ref f))) (l : K.lookup f = some ⟨oc, od, .func (PySem.W.fnOf "number_of" "number_of" (defArgs S_number_of) (defBody S_number_of) (defScope S_number_of) .none kV doc pm an cdv ct), osl⟩) (c : PySem.W.codeIn K cdv "number_of" = true) (k : PySem.W.keepIn K (.ref f) = true) :
    Fn1 K mg "number_of" S_number_of ["text"] f (PySem.W.fnOf "number_of" "number_of" (defArgs S_number_of) (defBody S_number_of) (defScope S_number_of) .none kV doc pm an cdv ct) := ⟨fun_mk l c k, L2.Binds.all fun us hl => match us, hl with | [_], _ => rfl, PySem.W.mg_of X G a⟩
theorem mk_common_below (X : K.In h) (G : h.Ns mainGlobals mg) {f : Addr} {oc : Value} {od an : Option Addr} {osl : Array (Option Value)} {kV doc pm cdv ct : Value} (a : PySem.W.nsIn K mainGlobals "common_below" = some (some (.ref f))) (l : K.lookup f = some ⟨oc, od, .func (PySem.W.fnOf "common_below" "common_below" (defArgs S_common_below) (defBody S_common_below) (defScope S_common_below) .none kV doc pm an cdv ct), osl⟩) (c : PySem.W.codeIn K cdv "common_below" = true) (k : PySem.W.keepIn K (.ref f) = true) :
    Fn1 K mg "common_below" S_common_below ["corners"] f (PySem.W.fnOf "common_below" "common_below" (defArgs S_common_below) (defBody S_common_below) (defScope S_common_below) .none kV doc pm an cdv ct) := ⟨fun_mk l c k, L2.Binds.all fun us hl => match us, hl with | [_], _ => rfl, PySem.W.mg_of X G a⟩
theorem mk_whole_corners (X : K.In h) (G : h.Ns mainGlobals mg) {f : Addr} {oc : Value} {od an : Option Addr} {osl : Array (Option Value)} {kV doc pm cdv ct : Value} (a : PySem.W.nsIn K mainGlobals "whole_corners" = some (some (.ref f))) (l : K.lookup f = some ⟨oc, od, .func (PySem.W.fnOf "whole_corners" "whole_corners" (defArgs S_whole_corners) (defBody S_whole_corners) (defScope S_whole_corners) .none kV doc pm an cdv ct), osl⟩) (c : PySem.W.codeIn K cdv "whole_corners" = true) (k : PySem.W.keepIn K (.ref f) = true) :
    Fn1 K mg "whole_corners" S_whole_corners ["corners", "below"] f (PySem.W.fnOf "whole_corners" "whole_corners" (defArgs S_whole_corners) (defBody S_whole_corners) (defScope S_whole_corners) .none kV doc pm an cdv ct) := ⟨fun_mk l c k, L2.Binds.all fun us hl => match us, hl with | [_, _], _ => rfl, PySem.W.mg_of X G a⟩
theorem mk_all_whole (X : K.In h) (G : h.Ns mainGlobals mg) {f : Addr} {oc : Value} {od an : Option Addr} {osl : Array (Option Value)} {kV doc pm cdv ct : Value} (a : PySem.W.nsIn K mainGlobals "all_whole" = some (some (.ref f))) (l : K.lookup f = some ⟨oc, od, .func (PySem.W.fnOf "all_whole" "all_whole" (defArgs S_all_whole) (defBody S_all_whole) (defScope S_all_whole) .none kV doc pm an cdv ct), osl⟩) (c : PySem.W.codeIn K cdv "all_whole" = true) (k : PySem.W.keepIn K (.ref f) = true) :
    Fn1 K mg "all_whole" S_all_whole ["corners"] f (PySem.W.fnOf "all_whole" "all_whole" (defArgs S_all_whole) (defBody S_all_whole) (defScope S_all_whole) .none kV doc pm an cdv ct) := ⟨fun_mk l c k, L2.Binds.all fun us hl => match us, hl with | [_], _ => rfl, PySem.W.mg_of X G a⟩
theorem mk_side (X : K.In h) (G : h.Ns mainGlobals mg) {f : Addr} {oc : Value} {od an : Option Addr} {osl : Array (Option Value)} {kV doc pm cdv ct : Value} (a : PySem.W.nsIn K mainGlobals "side" = some (some (.ref f))) (l : K.lookup f = some ⟨oc, od, .func (PySem.W.fnOf "side" "side" (defArgs S_side) (defBody S_side) (defScope S_side) .none kV doc pm an cdv ct), osl⟩) (c : PySem.W.codeIn K cdv "side" = true) (k : PySem.W.keepIn K (.ref f) = true) :
    Fn1 K mg "side" S_side ["a", "b", "c"] f (PySem.W.fnOf "side" "side" (defArgs S_side) (defBody S_side) (defScope S_side) .none kV doc pm an cdv ct) := ⟨fun_mk l c k, L2.Binds.all fun us hl => match us, hl with | [_, _, _], _ => rfl, PySem.W.mg_of X G a⟩
theorem mk_apart (X : K.In h) (G : h.Ns mainGlobals mg) {f : Addr} {oc : Value} {od an : Option Addr} {osl : Array (Option Value)} {kV doc pm cdv ct : Value} (a : PySem.W.nsIn K mainGlobals "apart" = some (some (.ref f))) (l : K.lookup f = some ⟨oc, od, .func (PySem.W.fnOf "apart" "apart" (defArgs S_apart) (defBody S_apart) (defScope S_apart) .none kV doc pm an cdv ct), osl⟩) (c : PySem.W.codeIn K cdv "apart" = true) (k : PySem.W.keepIn K (.ref f) = true) :
    Fn1 K mg "apart" S_apart ["a", "b", "c", "d"] f (PySem.W.fnOf "apart" "apart" (defArgs S_apart) (defBody S_apart) (defScope S_apart) .none kV doc pm an cdv ct) := ⟨fun_mk l c k, L2.Binds.all fun us hl => match us, hl with | [_, _, _, _], _ => rfl, PySem.W.mg_of X G a⟩
theorem mk_have_common_point (X : K.In h) (G : h.Ns mainGlobals mg) {f : Addr} {oc : Value} {od an : Option Addr} {osl : Array (Option Value)} {kV doc pm cdv ct : Value} (a : PySem.W.nsIn K mainGlobals "have_common_point" = some (some (.ref f))) (l : K.lookup f = some ⟨oc, od, .func (PySem.W.fnOf "have_common_point" "have_common_point" (defArgs S_have_common_point) (defBody S_have_common_point) (defScope S_have_common_point) .none kV doc pm an cdv ct), osl⟩) (c : PySem.W.codeIn K cdv "have_common_point" = true) (k : PySem.W.keepIn K (.ref f) = true) :
    Fn1 K mg "have_common_point" S_have_common_point ["a", "b", "c", "d"] f (PySem.W.fnOf "have_common_point" "have_common_point" (defArgs S_have_common_point) (defBody S_have_common_point) (defScope S_have_common_point) .none kV doc pm an cdv ct) := ⟨fun_mk l c k, L2.Binds.all fun us hl => match us, hl with | [_, _, _, _], _ => rfl, PySem.W.mg_of X G a⟩
theorem mk_after (X : K.In h) (G : h.Ns mainGlobals mg) {f : Addr} {oc : Value} {od an : Option Addr} {osl : Array (Option Value)} {kV doc pm cdv ct : Value} (a : PySem.W.nsIn K mainGlobals "after" = some (some (.ref f))) (l : K.lookup f = some ⟨oc, od, .func (PySem.W.fnOf "after" "after" (defArgs S_after) (defBody S_after) (defScope S_after) .none kV doc pm an cdv ct), osl⟩) (c : PySem.W.codeIn K cdv "after" = true) (k : PySem.W.keepIn K (.ref f) = true) :
    Fn1 K mg "after" S_after ["row", "index"] f (PySem.W.fnOf "after" "after" (defArgs S_after) (defBody S_after) (defScope S_after) .none kV doc pm an cdv ct) := ⟨fun_mk l c k, L2.Binds.all fun us hl => match us, hl with | [_, _], _ => rfl, PySem.W.mg_of X G a⟩
theorem mk_edges_keep_apart (X : K.In h) (G : h.Ns mainGlobals mg) {f : Addr} {oc : Value} {od an : Option Addr} {osl : Array (Option Value)} {kV doc pm cdv ct : Value} (a : PySem.W.nsIn K mainGlobals "edges_keep_apart" = some (some (.ref f))) (l : K.lookup f = some ⟨oc, od, .func (PySem.W.fnOf "edges_keep_apart" "edges_keep_apart" (defArgs S_edges_keep_apart) (defBody S_edges_keep_apart) (defScope S_edges_keep_apart) .none kV doc pm an cdv ct), osl⟩) (c : PySem.W.codeIn K cdv "edges_keep_apart" = true) (k : PySem.W.keepIn K (.ref f) = true) :
    Fn1 K mg "edges_keep_apart" S_edges_keep_apart ["corners"] f (PySem.W.fnOf "edges_keep_apart" "edges_keep_apart" (defArgs S_edges_keep_apart) (defBody S_edges_keep_apart) (defScope S_edges_keep_apart) .none kV doc pm an cdv ct) := ⟨fun_mk l c k, L2.Binds.all fun us hl => match us, hl with | [_], _ => rfl, PySem.W.mg_of X G a⟩
theorem mk_twice_area (X : K.In h) (G : h.Ns mainGlobals mg) {f : Addr} {oc : Value} {od an : Option Addr} {osl : Array (Option Value)} {kV doc pm cdv ct : Value} (a : PySem.W.nsIn K mainGlobals "twice_area" = some (some (.ref f))) (l : K.lookup f = some ⟨oc, od, .func (PySem.W.fnOf "twice_area" "twice_area" (defArgs S_twice_area) (defBody S_twice_area) (defScope S_twice_area) .none kV doc pm an cdv ct), osl⟩) (c : PySem.W.codeIn K cdv "twice_area" = true) (k : PySem.W.keepIn K (.ref f) = true) :
    Fn1 K mg "twice_area" S_twice_area ["corners"] f (PySem.W.fnOf "twice_area" "twice_area" (defArgs S_twice_area) (defBody S_twice_area) (defScope S_twice_area) .none kV doc pm an cdv ct) := ⟨fun_mk l c k, L2.Binds.all fun us hl => match us, hl with | [_], _ => rfl, PySem.W.mg_of X G a⟩
theorem mk_are_corners (X : K.In h) (G : h.Ns mainGlobals mg) {f : Addr} {oc : Value} {od an : Option Addr} {osl : Array (Option Value)} {kV doc pm cdv ct : Value} (a : PySem.W.nsIn K mainGlobals "are_corners" = some (some (.ref f))) (l : K.lookup f = some ⟨oc, od, .func (PySem.W.fnOf "are_corners" "are_corners" (defArgs S_are_corners) (defBody S_are_corners) (defScope S_are_corners) .none kV doc pm an cdv ct), osl⟩) (c : PySem.W.codeIn K cdv "are_corners" = true) (k : PySem.W.keepIn K (.ref f) = true) :
    Fn1 K mg "are_corners" S_are_corners ["corners"] f (PySem.W.fnOf "are_corners" "are_corners" (defArgs S_are_corners) (defBody S_are_corners) (defScope S_are_corners) .none kV doc pm an cdv ct) := ⟨fun_mk l c k, L2.Binds.all fun us hl => match us, hl with | [_], _ => rfl, PySem.W.mg_of X G a⟩
theorem mk_edge_length (X : K.In h) (G : h.Ns mainGlobals mg) {f : Addr} {oc : Value} {od an : Option Addr} {osl : Array (Option Value)} {kV doc pm cdv ct : Value} (a : PySem.W.nsIn K mainGlobals "edge_length" = some (some (.ref f))) (l : K.lookup f = some ⟨oc, od, .func (PySem.W.fnOf "edge_length" "edge_length" (defArgs S_edge_length) (defBody S_edge_length) (defScope S_edge_length) .none kV doc pm an cdv ct), osl⟩) (c : PySem.W.codeIn K cdv "edge_length" = true) (k : PySem.W.keepIn K (.ref f) = true) :
    Fn1 K mg "edge_length" S_edge_length ["corners", "edge"] f (PySem.W.fnOf "edge_length" "edge_length" (defArgs S_edge_length) (defBody S_edge_length) (defScope S_edge_length) .none kV doc pm an cdv ct) := ⟨fun_mk l c k, L2.Binds.all fun us hl => match us, hl with | [_, _], _ => rfl, PySem.W.mg_of X G a⟩
theorem mk_edges_through (X : K.In h) (G : h.Ns mainGlobals mg) {f : Addr} {oc : Value} {od an : Option Addr} {osl : Array (Option Value)} {kV doc pm cdv ct : Value} (a : PySem.W.nsIn K mainGlobals "edges_through" = some (some (.ref f))) (l : K.lookup f = some ⟨oc, od, .func (PySem.W.fnOf "edges_through" "edges_through" (defArgs S_edges_through) (defBody S_edges_through) (defScope S_edges_through) .none kV doc pm an cdv ct), osl⟩) (c : PySem.W.codeIn K cdv "edges_through" = true) (k : PySem.W.keepIn K (.ref f) = true) :
    Fn1 K mg "edges_through" S_edges_through ["whole", "spot"] f (PySem.W.fnOf "edges_through" "edges_through" (defArgs S_edges_through) (defBody S_edges_through) (defScope S_edges_through) .none kV doc pm an cdv ct) := ⟨fun_mk l c k, L2.Binds.all fun us hl => match us, hl with | [_, _], _ => rfl, PySem.W.mg_of X G a⟩
theorem mk_goes_round (X : K.In h) (G : h.Ns mainGlobals mg) {f : Addr} {oc : Value} {od an : Option Addr} {osl : Array (Option Value)} {kV doc pm cdv ct : Value} (a : PySem.W.nsIn K mainGlobals "goes_round" = some (some (.ref f))) (l : K.lookup f = some ⟨oc, od, .func (PySem.W.fnOf "goes_round" "goes_round" (defArgs S_goes_round) (defBody S_goes_round) (defScope S_goes_round) .none kV doc pm an cdv ct), osl⟩) (c : PySem.W.codeIn K cdv "goes_round" = true) (k : PySem.W.keepIn K (.ref f) = true) :
    Fn1 K mg "goes_round" S_goes_round ["whole", "spot"] f (PySem.W.fnOf "goes_round" "goes_round" (defArgs S_goes_round) (defBody S_goes_round) (defScope S_goes_round) .none kV doc pm an cdv ct) := ⟨fun_mk l c k, L2.Binds.all fun us hl => match us, hl with | [_, _], _ => rfl, PySem.W.mg_of X G a⟩
theorem mk_where_among (X : K.In h) (G : h.Ns mainGlobals mg) {f : Addr} {oc : Value} {od an : Option Addr} {osl : Array (Option Value)} {kV doc pm cdv ct : Value} (a : PySem.W.nsIn K mainGlobals "where_among" = some (some (.ref f))) (l : K.lookup f = some ⟨oc, od, .func (PySem.W.fnOf "where_among" "where_among" (defArgs S_where_among) (defBody S_where_among) (defScope S_where_among) .none kV doc pm an cdv ct), osl⟩) (c : PySem.W.codeIn K cdv "where_among" = true) (k : PySem.W.keepIn K (.ref f) = true) :
    Fn1 K mg "where_among" S_where_among ["whole", "spot"] f (PySem.W.fnOf "where_among" "where_among" (defArgs S_where_among) (defBody S_where_among) (defScope S_where_among) .none kV doc pm an cdv ct) := ⟨fun_mk l c k, L2.Binds.all fun us hl => match us, hl with | [_, _], _ => rfl, PySem.W.mg_of X G a⟩
theorem mk_edges_at (X : K.In h) (G : h.Ns mainGlobals mg) {f : Addr} {oc : Value} {od an : Option Addr} {osl : Array (Option Value)} {kV doc pm cdv ct : Value} (a : PySem.W.nsIn K mainGlobals "edges_at" = some (some (.ref f))) (l : K.lookup f = some ⟨oc, od, .func (PySem.W.fnOf "edges_at" "edges_at" (defArgs S_edges_at) (defBody S_edges_at) (defScope S_edges_at) .none kV doc pm an cdv ct), osl⟩) (c : PySem.W.codeIn K cdv "edges_at" = true) (k : PySem.W.keepIn K (.ref f) = true) :
    Fn1 K mg "edges_at" S_edges_at ["corners", "point"] f (PySem.W.fnOf "edges_at" "edges_at" (defArgs S_edges_at) (defBody S_edges_at) (defScope S_edges_at) .none kV doc pm an cdv ct) := ⟨fun_mk l c k, L2.Binds.all fun us hl => match us, hl with | [_, _], _ => rfl, PySem.W.mg_of X G a⟩
theorem mk_where_lies (X : K.In h) (G : h.Ns mainGlobals mg) {f : Addr} {oc : Value} {od an : Option Addr} {osl : Array (Option Value)} {kV doc pm cdv ct : Value} (a : PySem.W.nsIn K mainGlobals "where_lies" = some (some (.ref f))) (l : K.lookup f = some ⟨oc, od, .func (PySem.W.fnOf "where_lies" "where_lies" (defArgs S_where_lies) (defBody S_where_lies) (defScope S_where_lies) .none kV doc pm an cdv ct), osl⟩) (c : PySem.W.codeIn K cdv "where_lies" = true) (k : PySem.W.keepIn K (.ref f) = true) :
    Fn1 K mg "where_lies" S_where_lies ["corners", "point"] f (PySem.W.fnOf "where_lies" "where_lies" (defArgs S_where_lies) (defBody S_where_lies) (defScope S_where_lies) .none kV doc pm an cdv ct) := ⟨fun_mk l c k, L2.Binds.all fun us hl => match us, hl with | [_, _], _ => rfl, PySem.W.mg_of X G a⟩
theorem er_Refusal (X : K.In h) (G : h.Ns mainGlobals mg) {f : Addr} {oc : Value} {od an : Option Addr} {osl : Array (Option Value)} {kV doc pm cdv ct : Value} {C N : Addr} {nm q : Str} {bs bm : List Value} {sn : List Str} {sub : List Value} {ab : Bool} {col : Option Bool} {dd : Option Addr} {m0 m1 m2 m3 m5 : Option Value}
    (aC : PySem.W.nsIn K mainGlobals "Refusal" = some (some (.ref C))) (xL : K.lookup C = some (excClassObj nm q C N bs bm true sn sub ab col dd m0 m1 m2 m3 m5 "Exception.__new__")) (xB : refsEx bm = true)
    (sa : PySem.W.findIn K (.ref C) "__setattr__" = some (some (.builtin "object.__setattr__"))) (eC : PySem.W.subIn K (.ref C) (.type "BaseException") = some true) (tC : PySem.W.typeIn K (.ref C) = some (.type "type")) (kC : PySem.W.keepIn K (.ref C) = true)
    (ga : PySem.W.findIn K (.ref C) "__getattribute__" = some (some (.builtin "BaseException.__getattribute__"))) (gg : PySem.W.findIn K (.ref C) "__getattr__" = some none) (hC : PySem.W.hasDictIn K C = true) (nN : PySem.W.findIn K (.ref C) "number" = some none) (nS : PySem.W.findIn K (.ref C) "signed" = some none)
    (a : PySem.W.findIn K (.ref C) "__init__" = some (some (.ref f))) (t : PySem.W.typeIn K (.ref f) = some (.type "function")) (l : K.lookup f = some ⟨oc, od, .func (PySem.W.fnOf "__init__" "Refusal.__init__" (defArgs sRefI) (defBody sRefI) (defScope sRefI) .none kV doc pm an cdv ct), osl⟩) (c : PySem.W.codeIn K cdv "Refusal.__init__" = true) (k : PySem.W.keepIn K (.ref f) = true) :
    ErrC K mg "Refusal" C f ∧ L2.Fun K "__init__" "Refusal.__init__" sRefI f (PySem.W.fnOf "__init__" "Refusal.__init__" (defArgs sRefI) (defBody sRefI) (defScope sRefI) .none kV doc pm an cdv ct) ∧ L2.Binds K (PySem.W.fnOf "__init__" "Refusal.__init__" (defArgs sRefI) (defBody sRefI) (defScope sRefI) .none kV doc pm an cdv ct) ["self", "number", "signed"] [] :=
  ⟨{ g := PySem.W.mg_of X G aC, ex := ⟨⟨nm, q, N, bs, bm, sn, sub, ab, col, dd, m0, m1, m2, m3, m5, xL, xB⟩, sa, eC, tC, kC⟩, noN := nN, noS := nS, iC := a, tI := t, xf := ⟨ga, gg, eC, hC⟩ }, fun_mk l c k, L2.Binds.all fun us hl => match us, hl with | [_, _, _], _ => rfl⟩
theorem er_TooLong (X : K.In h) (G : h.Ns mainGlobals mg) {f : Addr} {oc : Value} {od an : Option Addr} {osl : Array (Option Value)} {kV doc pm cdv ct : Value} {C N : Addr} {nm q : Str} {bs bm : List Value} {sn : List Str} {sub : List Value} {ab : Bool} {col : Option Bool} {dd : Option Addr} {m0 m1 m2 m3 m5 : Option Value}
    (aC : PySem.W.nsIn K mainGlobals "TooLong" = some (some (.ref C))) (xL : K.lookup C = some (excClassObj nm q C N bs bm true sn sub ab col dd m0 m1 m2 m3 m5 "Exception.__new__")) (xB : refsEx bm = true)
    (sa : PySem.W.findIn K (.ref C) "__setattr__" = some (some (.builtin "object.__setattr__"))) (eC : PySem.W.subIn K (.ref C) (.type "BaseException") = some true) (tC : PySem.W.typeIn K (.ref C) = some (.type "type")) (kC : PySem.W.keepIn K (.ref C) = true)
    (ga : PySem.W.findIn K (.ref C) "__getattribute__" = some (some (.builtin "BaseException.__getattribute__"))) (gg : PySem.W.findIn K (.ref C) "__getattr__" = some none) (hC : PySem.W.hasDictIn K C = true) (nN : PySem.W.findIn K (.ref C) "number" = some none) (nS : PySem.W.findIn K (.ref C) "signed" = some none)
    (a : PySem.W.findIn K (.ref C) "__init__" = some (some (.ref f))) (t : PySem.W.typeIn K (.ref f) = some (.type "function")) (l : K.lookup f = some ⟨oc, od, .func (PySem.W.fnOf "__init__" "TooLong.__init__" (defArgs sTooI) (defBody sTooI) (defScope sTooI) .none kV doc pm an cdv ct), osl⟩) (c : PySem.W.codeIn K cdv "TooLong.__init__" = true) (k : PySem.W.keepIn K (.ref f) = true) :
    ErrC K mg "TooLong" C f ∧ L2.Fun K "__init__" "TooLong.__init__" sTooI f (PySem.W.fnOf "__init__" "TooLong.__init__" (defArgs sTooI) (defBody sTooI) (defScope sTooI) .none kV doc pm an cdv ct) ∧ L2.Binds K (PySem.W.fnOf "__init__" "TooLong.__init__" (defArgs sTooI) (defBody sTooI) (defScope sTooI) .none kV doc pm an cdv ct) ["self"] [] :=
  ⟨{ g := PySem.W.mg_of X G aC, ex := ⟨⟨nm, q, N, bs, bm, sn, sub, ab, col, dd, m0, m1, m2, m3, m5, xL, xB⟩, sa, eC, tC, kC⟩, noN := nN, noS := nS, iC := a, tI := t, xf := ⟨ga, gg, eC, hC⟩ }, fun_mk l c k, L2.Binds.all fun us hl => match us, hl with | [_], _ => rfl⟩
theorem er_NoPoint (X : K.In h) (G : h.Ns mainGlobals mg) {f : Addr} {oc : Value} {od an : Option Addr} {osl : Array (Option Value)} {kV doc pm cdv ct : Value} {C N : Addr} {nm q : Str} {bs bm : List Value} {sn : List Str} {sub : List Value} {ab : Bool} {col : Option Bool} {dd : Option Addr} {m0 m1 m2 m3 m5 : Option Value}
    (aC : PySem.W.nsIn K mainGlobals "NoPoint" = some (some (.ref C))) (xL : K.lookup C = some (excClassObj nm q C N bs bm true sn sub ab col dd m0 m1 m2 m3 m5 "Exception.__new__")) (xB : refsEx bm = true)
    (sa : PySem.W.findIn K (.ref C) "__setattr__" = some (some (.builtin "object.__setattr__"))) (eC : PySem.W.subIn K (.ref C) (.type "BaseException") = some true) (tC : PySem.W.typeIn K (.ref C) = some (.type "type")) (kC : PySem.W.keepIn K (.ref C) = true)
    (ga : PySem.W.findIn K (.ref C) "__getattribute__" = some (some (.builtin "BaseException.__getattribute__"))) (gg : PySem.W.findIn K (.ref C) "__getattr__" = some none) (hC : PySem.W.hasDictIn K C = true) (nN : PySem.W.findIn K (.ref C) "number" = some none) (nS : PySem.W.findIn K (.ref C) "signed" = some none)
    (a : PySem.W.findIn K (.ref C) "__init__" = some (some (.ref f))) (t : PySem.W.typeIn K (.ref f) = some (.type "function")) (l : K.lookup f = some ⟨oc, od, .func (PySem.W.fnOf "__init__" "NoPoint.__init__" (defArgs S_NoPoint_I) (defBody S_NoPoint_I) (defScope S_NoPoint_I) .none kV doc pm an cdv ct), osl⟩) (c : PySem.W.codeIn K cdv "NoPoint.__init__" = true) (k : PySem.W.keepIn K (.ref f) = true) :
    ErrC K mg "NoPoint" C f ∧ L2.Fun K "__init__" "NoPoint.__init__" S_NoPoint_I f (PySem.W.fnOf "__init__" "NoPoint.__init__" (defArgs S_NoPoint_I) (defBody S_NoPoint_I) (defScope S_NoPoint_I) .none kV doc pm an cdv ct) ∧ L2.Binds K (PySem.W.fnOf "__init__" "NoPoint.__init__" (defArgs S_NoPoint_I) (defBody S_NoPoint_I) (defScope S_NoPoint_I) .none kV doc pm an cdv ct) ["self"] [] :=
  ⟨{ g := PySem.W.mg_of X G aC, ex := ⟨⟨nm, q, N, bs, bm, sn, sub, ab, col, dd, m0, m1, m2, m3, m5, xL, xB⟩, sa, eC, tC, kC⟩, noN := nN, noS := nS, iC := a, tI := t, xf := ⟨ga, gg, eC, hC⟩ }, fun_mk l c k, L2.Binds.all fun us hl => match us, hl with | [_], _ => rfl⟩
theorem er_NoPattern (X : K.In h) (G : h.Ns mainGlobals mg) {f : Addr} {oc : Value} {od an : Option Addr} {osl : Array (Option Value)} {kV doc pm cdv ct : Value} {C N : Addr} {nm q : Str} {bs bm : List Value} {sn : List Str} {sub : List Value} {ab : Bool} {col : Option Bool} {dd : Option Addr} {m0 m1 m2 m3 m5 : Option Value}
    (aC : PySem.W.nsIn K mainGlobals "NoPattern" = some (some (.ref C))) (xL : K.lookup C = some (excClassObj nm q C N bs bm true sn sub ab col dd m0 m1 m2 m3 m5 "Exception.__new__")) (xB : refsEx bm = true)
    (sa : PySem.W.findIn K (.ref C) "__setattr__" = some (some (.builtin "object.__setattr__"))) (eC : PySem.W.subIn K (.ref C) (.type "BaseException") = some true) (tC : PySem.W.typeIn K (.ref C) = some (.type "type")) (kC : PySem.W.keepIn K (.ref C) = true)
    (ga : PySem.W.findIn K (.ref C) "__getattribute__" = some (some (.builtin "BaseException.__getattribute__"))) (gg : PySem.W.findIn K (.ref C) "__getattr__" = some none) (hC : PySem.W.hasDictIn K C = true) (nN : PySem.W.findIn K (.ref C) "number" = some none) (nS : PySem.W.findIn K (.ref C) "signed" = some none)
    (a : PySem.W.findIn K (.ref C) "__init__" = some (some (.ref f))) (t : PySem.W.typeIn K (.ref f) = some (.type "function")) (l : K.lookup f = some ⟨oc, od, .func (PySem.W.fnOf "__init__" "NoPattern.__init__" (defArgs S_NoPattern_I) (defBody S_NoPattern_I) (defScope S_NoPattern_I) .none kV doc pm an cdv ct), osl⟩) (c : PySem.W.codeIn K cdv "NoPattern.__init__" = true) (k : PySem.W.keepIn K (.ref f) = true) :
    ErrC K mg "NoPattern" C f ∧ L2.Fun K "__init__" "NoPattern.__init__" S_NoPattern_I f (PySem.W.fnOf "__init__" "NoPattern.__init__" (defArgs S_NoPattern_I) (defBody S_NoPattern_I) (defScope S_NoPattern_I) .none kV doc pm an cdv ct) ∧ L2.Binds K (PySem.W.fnOf "__init__" "NoPattern.__init__" (defArgs S_NoPattern_I) (defBody S_NoPattern_I) (defScope S_NoPattern_I) .none kV doc pm an cdv ct) ["self", "line"] [] :=
  ⟨{ g := PySem.W.mg_of X G aC, ex := ⟨⟨nm, q, N, bs, bm, sn, sub, ab, col, dd, m0, m1, m2, m3, m5, xL, xB⟩, sa, eC, tC, kC⟩, noN := nN, noS := nS, iC := a, tI := t, xf := ⟨ga, gg, eC, hC⟩ }, fun_mk l c k, L2.Binds.all fun us hl => match us, hl with | [_, _], _ => rfl⟩
theorem er_NoPiece (X : K.In h) (G : h.Ns mainGlobals mg) {f : Addr} {oc : Value} {od an : Option Addr} {osl : Array (Option Value)} {kV doc pm cdv ct : Value} {C N : Addr} {nm q : Str} {bs bm : List Value} {sn : List Str} {sub : List Value} {ab : Bool} {col : Option Bool} {dd : Option Addr} {m0 m1 m2 m3 m5 : Option Value}
    (aC : PySem.W.nsIn K mainGlobals "NoPiece" = some (some (.ref C))) (xL : K.lookup C = some (excClassObj nm q C N bs bm true sn sub ab col dd m0 m1 m2 m3 m5 "Exception.__new__")) (xB : refsEx bm = true)
    (sa : PySem.W.findIn K (.ref C) "__setattr__" = some (some (.builtin "object.__setattr__"))) (eC : PySem.W.subIn K (.ref C) (.type "BaseException") = some true) (tC : PySem.W.typeIn K (.ref C) = some (.type "type")) (kC : PySem.W.keepIn K (.ref C) = true)
    (ga : PySem.W.findIn K (.ref C) "__getattribute__" = some (some (.builtin "BaseException.__getattribute__"))) (gg : PySem.W.findIn K (.ref C) "__getattr__" = some none) (hC : PySem.W.hasDictIn K C = true) (nN : PySem.W.findIn K (.ref C) "number" = some none) (nS : PySem.W.findIn K (.ref C) "signed" = some none)
    (a : PySem.W.findIn K (.ref C) "__init__" = some (some (.ref f))) (t : PySem.W.typeIn K (.ref f) = some (.type "function")) (l : K.lookup f = some ⟨oc, od, .func (PySem.W.fnOf "__init__" "NoPiece.__init__" (defArgs S_NoPiece_I) (defBody S_NoPiece_I) (defScope S_NoPiece_I) .none kV doc pm an cdv ct), osl⟩) (c : PySem.W.codeIn K cdv "NoPiece.__init__" = true) (k : PySem.W.keepIn K (.ref f) = true) :
    ErrC K mg "NoPiece" C f ∧ L2.Fun K "__init__" "NoPiece.__init__" S_NoPiece_I f (PySem.W.fnOf "__init__" "NoPiece.__init__" (defArgs S_NoPiece_I) (defBody S_NoPiece_I) (defScope S_NoPiece_I) .none kV doc pm an cdv ct) ∧ L2.Binds K (PySem.W.fnOf "__init__" "NoPiece.__init__" (defArgs S_NoPiece_I) (defBody S_NoPiece_I) (defScope S_NoPiece_I) .none kV doc pm an cdv ct) ["self"] [] :=
  ⟨{ g := PySem.W.mg_of X G aC, ex := ⟨⟨nm, q, N, bs, bm, sn, sub, ab, col, dd, m0, m1, m2, m3, m5, xL, xB⟩, sa, eC, tC, kC⟩, noN := nN, noS := nS, iC := a, tI := t, xf := ⟨ga, gg, eC, hC⟩ }, fun_mk l c k, L2.Binds.all fun us hl => match us, hl with | [_], _ => rfl⟩
theorem er_NoPlace (X : K.In h) (G : h.Ns mainGlobals mg) {f : Addr} {oc : Value} {od an : Option Addr} {osl : Array (Option Value)} {kV doc pm cdv ct : Value} {C N : Addr} {nm q : Str} {bs bm : List Value} {sn : List Str} {sub : List Value} {ab : Bool} {col : Option Bool} {dd : Option Addr} {m0 m1 m2 m3 m5 : Option Value}
    (aC : PySem.W.nsIn K mainGlobals "NoPlace" = some (some (.ref C))) (xL : K.lookup C = some (excClassObj nm q C N bs bm true sn sub ab col dd m0 m1 m2 m3 m5 "Exception.__new__")) (xB : refsEx bm = true)
    (sa : PySem.W.findIn K (.ref C) "__setattr__" = some (some (.builtin "object.__setattr__"))) (eC : PySem.W.subIn K (.ref C) (.type "BaseException") = some true) (tC : PySem.W.typeIn K (.ref C) = some (.type "type")) (kC : PySem.W.keepIn K (.ref C) = true)
    (ga : PySem.W.findIn K (.ref C) "__getattribute__" = some (some (.builtin "BaseException.__getattribute__"))) (gg : PySem.W.findIn K (.ref C) "__getattr__" = some none) (hC : PySem.W.hasDictIn K C = true) (nN : PySem.W.findIn K (.ref C) "number" = some none) (nS : PySem.W.findIn K (.ref C) "signed" = some none)
    (a : PySem.W.findIn K (.ref C) "__init__" = some (some (.ref f))) (t : PySem.W.typeIn K (.ref f) = some (.type "function")) (l : K.lookup f = some ⟨oc, od, .func (PySem.W.fnOf "__init__" "NoPlace.__init__" (defArgs S_NoPlace_I) (defBody S_NoPlace_I) (defScope S_NoPlace_I) .none kV doc pm an cdv ct), osl⟩) (c : PySem.W.codeIn K cdv "NoPlace.__init__" = true) (k : PySem.W.keepIn K (.ref f) = true) :
    ErrC K mg "NoPlace" C f ∧ L2.Fun K "__init__" "NoPlace.__init__" S_NoPlace_I f (PySem.W.fnOf "__init__" "NoPlace.__init__" (defArgs S_NoPlace_I) (defBody S_NoPlace_I) (defScope S_NoPlace_I) .none kV doc pm an cdv ct) ∧ L2.Binds K (PySem.W.fnOf "__init__" "NoPlace.__init__" (defArgs S_NoPlace_I) (defBody S_NoPlace_I) (defScope S_NoPlace_I) .none kV doc pm an cdv ct) ["self"] [] :=
  ⟨{ g := PySem.W.mg_of X G aC, ex := ⟨⟨nm, q, N, bs, bm, sn, sub, ab, col, dd, m0, m1, m2, m3, m5, xL, xB⟩, sa, eC, tC, kC⟩, noN := nN, noS := nS, iC := a, tI := t, xf := ⟨ga, gg, eC, hC⟩ }, fun_mk l c k, L2.Binds.all fun us hl => match us, hl with | [_], _ => rfl⟩
theorem er_TooFine (X : K.In h) (G : h.Ns mainGlobals mg) {f : Addr} {oc : Value} {od an : Option Addr} {osl : Array (Option Value)} {kV doc pm cdv ct : Value} {C N : Addr} {nm q : Str} {bs bm : List Value} {sn : List Str} {sub : List Value} {ab : Bool} {col : Option Bool} {dd : Option Addr} {m0 m1 m2 m3 m5 : Option Value}
    (aC : PySem.W.nsIn K mainGlobals "TooFine" = some (some (.ref C))) (xL : K.lookup C = some (excClassObj nm q C N bs bm true sn sub ab col dd m0 m1 m2 m3 m5 "Exception.__new__")) (xB : refsEx bm = true)
    (sa : PySem.W.findIn K (.ref C) "__setattr__" = some (some (.builtin "object.__setattr__"))) (eC : PySem.W.subIn K (.ref C) (.type "BaseException") = some true) (tC : PySem.W.typeIn K (.ref C) = some (.type "type")) (kC : PySem.W.keepIn K (.ref C) = true)
    (ga : PySem.W.findIn K (.ref C) "__getattribute__" = some (some (.builtin "BaseException.__getattribute__"))) (gg : PySem.W.findIn K (.ref C) "__getattr__" = some none) (hC : PySem.W.hasDictIn K C = true) (nN : PySem.W.findIn K (.ref C) "number" = some none) (nS : PySem.W.findIn K (.ref C) "signed" = some none)
    (a : PySem.W.findIn K (.ref C) "__init__" = some (some (.ref f))) (t : PySem.W.typeIn K (.ref f) = some (.type "function")) (l : K.lookup f = some ⟨oc, od, .func (PySem.W.fnOf "__init__" "TooFine.__init__" (defArgs S_TooFine_I) (defBody S_TooFine_I) (defScope S_TooFine_I) .none kV doc pm an cdv ct), osl⟩) (c : PySem.W.codeIn K cdv "TooFine.__init__" = true) (k : PySem.W.keepIn K (.ref f) = true) :
    ErrC K mg "TooFine" C f ∧ L2.Fun K "__init__" "TooFine.__init__" S_TooFine_I f (PySem.W.fnOf "__init__" "TooFine.__init__" (defArgs S_TooFine_I) (defBody S_TooFine_I) (defScope S_TooFine_I) .none kV doc pm an cdv ct) ∧ L2.Binds K (PySem.W.fnOf "__init__" "TooFine.__init__" (defArgs S_TooFine_I) (defBody S_TooFine_I) (defScope S_TooFine_I) .none kV doc pm an cdv ct) ["self"] [] :=
  ⟨{ g := PySem.W.mg_of X G aC, ex := ⟨⟨nm, q, N, bs, bm, sn, sub, ab, col, dd, m0, m1, m2, m3, m5, xL, xB⟩, sa, eC, tC, kC⟩, noN := nN, noS := nS, iC := a, tI := t, xf := ⟨ga, gg, eC, hC⟩ }, fun_mk l c k, L2.Binds.all fun us hl => match us, hl with | [_], _ => rfl⟩
theorem mk_ends (X : K.In h) (G : h.Ns mainGlobals mg) {f : Addr} {oc : Value} {od an : Option Addr} {osl : Array (Option Value)} {kV doc pm cdv ct : Value} (a : PySem.W.nsIn K mainGlobals "ends" = some (some (.ref f))) (l : K.lookup f = some ⟨oc, od, .func (PySem.W.fnOf "ends" "ends" (defArgs S_ends) (defBody S_ends) (defScope S_ends) .none kV doc pm an cdv ct), osl⟩) (c : PySem.W.codeIn K cdv "ends" = true) (k : PySem.W.keepIn K (.ref f) = true) :
    Fn1 K mg "ends" S_ends ["pattern", "edge"] f (PySem.W.fnOf "ends" "ends" (defArgs S_ends) (defBody S_ends) (defScope S_ends) .none kV doc pm an cdv ct) := ⟨fun_mk l c k, L2.Binds.all fun us hl => match us, hl with | [_, _], _ => rfl, PySem.W.mg_of X G a⟩
theorem mk_part_of_way (X : K.In h) (G : h.Ns mainGlobals mg) {f : Addr} {oc : Value} {od an : Option Addr} {osl : Array (Option Value)} {kV doc pm cdv ct : Value} (a : PySem.W.nsIn K mainGlobals "part_of_way" = some (some (.ref f))) (l : K.lookup f = some ⟨oc, od, .func (PySem.W.fnOf "part_of_way" "part_of_way" (defArgs S_part_of_way) (defBody S_part_of_way) (defScope S_part_of_way) .none kV doc pm an cdv ct), osl⟩) (c : PySem.W.codeIn K cdv "part_of_way" = true) (k : PySem.W.keepIn K (.ref f) = true) :
    Fn1 K mg "part_of_way" S_part_of_way ["a", "b", "point"] f (PySem.W.fnOf "part_of_way" "part_of_way" (defArgs S_part_of_way) (defBody S_part_of_way) (defScope S_part_of_way) .none kV doc pm an cdv ct) := ⟨fun_mk l c k, L2.Binds.all fun us hl => match us, hl with | [_, _, _], _ => rfl, PySem.W.mg_of X G a⟩
theorem mk_number_at (X : K.In h) (G : h.Ns mainGlobals mg) {f : Addr} {oc : Value} {od an : Option Addr} {osl : Array (Option Value)} {kV doc pm cdv ct : Value} (a : PySem.W.nsIn K mainGlobals "number_at" = some (some (.ref f))) (l : K.lookup f = some ⟨oc, od, .func (PySem.W.fnOf "number_at" "number_at" (defArgs S_number_at) (defBody S_number_at) (defScope S_number_at) .none kV doc pm an cdv ct), osl⟩) (c : PySem.W.codeIn K cdv "number_at" = true) (k : PySem.W.keepIn K (.ref f) = true) :
    Fn1 K mg "number_at" S_number_at ["part", "a", "b"] f (PySem.W.fnOf "number_at" "number_at" (defArgs S_number_at) (defBody S_number_at) (defScope S_number_at) .none kV doc pm an cdv ct) := ⟨fun_mk l c k, L2.Binds.all fun us hl => match us, hl with | [_, _, _], _ => rfl, PySem.W.mg_of X G a⟩
theorem mk_partner (X : K.In h) (G : h.Ns mainGlobals mg) {f : Addr} {oc : Value} {od an : Option Addr} {osl : Array (Option Value)} {kV doc pm cdv ct : Value} (a : PySem.W.nsIn K mainGlobals "partner" = some (some (.ref f))) (l : K.lookup f = some ⟨oc, od, .func (PySem.W.fnOf "partner" "partner" (defArgs S_partner) (defBody S_partner) (defScope S_partner) .none kV doc pm an cdv ct), osl⟩) (c : PySem.W.codeIn K cdv "partner" = true) (k : PySem.W.keepIn K (.ref f) = true) :
    Fn1 K mg "partner" S_partner ["pattern", "edge", "other", "point"] f (PySem.W.fnOf "partner" "partner" (defArgs S_partner) (defBody S_partner) (defScope S_partner) .none kV doc pm an cdv ct) := ⟨fun_mk l c k, L2.Binds.all fun us hl => match us, hl with | [_, _, _, _], _ => rfl, PySem.W.mg_of X G a⟩
theorem mk_partners (X : K.In h) (G : h.Ns mainGlobals mg) {f : Addr} {oc : Value} {od an : Option Addr} {osl : Array (Option Value)} {kV doc pm cdv ct : Value} (a : PySem.W.nsIn K mainGlobals "partners" = some (some (.ref f))) (l : K.lookup f = some ⟨oc, od, .func (PySem.W.fnOf "partners" "partners" (defArgs S_partners) (defBody S_partners) (defScope S_partners) .none kV doc pm an cdv ct), osl⟩) (c : PySem.W.codeIn K cdv "partners" = true) (k : PySem.W.keepIn K (.ref f) = true) :
    Fn1 K mg "partners" S_partners ["pattern", "place"] f (PySem.W.fnOf "partners" "partners" (defArgs S_partners) (defBody S_partners) (defScope S_partners) .none kV doc pm an cdv ct) := ⟨fun_mk l c k, L2.Binds.all fun us hl => match us, hl with | [_, _], _ => rfl, PySem.W.mg_of X G a⟩
theorem mk_in_order (X : K.In h) (G : h.Ns mainGlobals mg) {f : Addr} {oc : Value} {od an : Option Addr} {osl : Array (Option Value)} {kV doc pm cdv ct : Value} (a : PySem.W.nsIn K mainGlobals "in_order" = some (some (.ref f))) (l : K.lookup f = some ⟨oc, od, .func (PySem.W.fnOf "in_order" "in_order" (defArgs S_in_order) (defBody S_in_order) (defScope S_in_order) .none kV doc pm an cdv ct), osl⟩) (c : PySem.W.codeIn K cdv "in_order" = true) (k : PySem.W.keepIn K (.ref f) = true) :
    Fn1 K mg "in_order" S_in_order ["places"] f (PySem.W.fnOf "in_order" "in_order" (defArgs S_in_order) (defBody S_in_order) (defScope S_in_order) .none kV doc pm an cdv ct) := ⟨fun_mk l c k, L2.Binds.all fun us hl => match us, hl with | [_], _ => rfl, PySem.W.mg_of X G a⟩
theorem mk_places_one_with (X : K.In h) (G : h.Ns mainGlobals mg) {f : Addr} {oc : Value} {od an : Option Addr} {osl : Array (Option Value)} {kV doc pm cdv ct : Value} (a : PySem.W.nsIn K mainGlobals "places_one_with" = some (some (.ref f))) (l : K.lookup f = some ⟨oc, od, .func (PySem.W.fnOf "places_one_with" "places_one_with" (defArgs S_places_one_with) (defBody S_places_one_with) (defScope S_places_one_with) .none kV doc pm an cdv ct), osl⟩) (c : PySem.W.codeIn K cdv "places_one_with" = true) (k : PySem.W.keepIn K (.ref f) = true) :
    Fn1 K mg "places_one_with" S_places_one_with ["pattern", "place"] f (PySem.W.fnOf "places_one_with" "places_one_with" (defArgs S_places_one_with) (defBody S_places_one_with) (defScope S_places_one_with) .none kV doc pm an cdv ct) := ⟨fun_mk l c k, L2.Binds.all fun us hl => match us, hl with | [_, _], _ => rfl, PySem.W.mg_of X G a⟩
theorem mk_text_of (X : K.In h) (G : h.Ns mainGlobals mg) {f : Addr} {oc : Value} {od an : Option Addr} {osl : Array (Option Value)} {kV doc pm cdv ct : Value} (a : PySem.W.nsIn K mainGlobals "text_of" = some (some (.ref f))) (l : K.lookup f = some ⟨oc, od, .func (PySem.W.fnOf "text_of" "text_of" (defArgs sTextOf) (defBody sTextOf) (defScope sTextOf) .none kV doc pm an cdv ct), osl⟩) (c : PySem.W.codeIn K cdv "text_of" = true) (k : PySem.W.keepIn K (.ref f) = true) :
    Fn1 K mg "text_of" sTextOf ["t"] f (PySem.W.fnOf "text_of" "text_of" (defArgs sTextOf) (defBody sTextOf) (defScope sTextOf) .none kV doc pm an cdv ct) := ⟨fun_mk l c k, L2.Binds.all fun us hl => match us, hl with | [_], _ => rfl, PySem.W.mg_of X G a⟩
theorem mk_bytes_of (X : K.In h) (G : h.Ns mainGlobals mg) {f : Addr} {oc : Value} {od an : Option Addr} {osl : Array (Option Value)} {kV doc pm cdv ct : Value} (a : PySem.W.nsIn K mainGlobals "bytes_of" = some (some (.ref f))) (l : K.lookup f = some ⟨oc, od, .func (PySem.W.fnOf "bytes_of" "bytes_of" (defArgs S_bytes_of) (defBody S_bytes_of) (defScope S_bytes_of) .none kV doc pm an cdv ct), osl⟩) (c : PySem.W.codeIn K cdv "bytes_of" = true) (k : PySem.W.keepIn K (.ref f) = true) :
    Fn1 K mg "bytes_of" S_bytes_of ["text"] f (PySem.W.fnOf "bytes_of" "bytes_of" (defArgs S_bytes_of) (defBody S_bytes_of) (defScope S_bytes_of) .none kV doc pm an cdv ct) := ⟨fun_mk l c k, L2.Binds.all fun us hl => match us, hl with | [_], _ => rfl, PySem.W.mg_of X G a⟩
theorem mt_Piece_init {f : Addr} {oc : Value} {od an : Option Addr} {osl : Array (Option Value)} {kV doc pm cdv ct : Value} {C : Addr} (a : PySem.W.findIn K (.ref C) "__init__" = some (some (.ref f))) (i : PySem.W.isFn K (.ref f) = true) (l : K.lookup f = some ⟨oc, od, .func (PySem.W.fnOf "__init__" "Piece.__init__" (defArgs S_Piece_I) (defBody S_Piece_I) (defScope S_Piece_I) .none kV doc pm an cdv ct), osl⟩) (c : PySem.W.codeIn K cdv "Piece.__init__" = true) (k : PySem.W.keepIn K (.ref f) = true) :
    Mt1 K C "__init__" "Piece.__init__" S_Piece_I ["self", "name", "grain", "corners"] f (PySem.W.fnOf "__init__" "Piece.__init__" (defArgs S_Piece_I) (defBody S_Piece_I) (defScope S_Piece_I) .none kV doc pm an cdv ct) := ⟨fun_mk l c k, L2.Binds.all fun us hl => match us, hl with | [_, _, _, _], _ => rfl, ⟨a, i, k⟩⟩
theorem mt_Pattern_init {f : Addr} {oc : Value} {od an : Option Addr} {osl : Array (Option Value)} {kV doc pm cdv ct : Value} {C : Addr} (a : PySem.W.findIn K (.ref C) "__init__" = some (some (.ref f))) (i : PySem.W.isFn K (.ref f) = true) (l : K.lookup f = some ⟨oc, od, .func (PySem.W.fnOf "__init__" "Pattern.__init__" (defArgs S_Pattern_I) (defBody S_Pattern_I) (defScope S_Pattern_I) .none kV doc pm an cdv ct), osl⟩) (c : PySem.W.codeIn K cdv "Pattern.__init__" = true) (k : PySem.W.keepIn K (.ref f) = true) :
    Mt1 K C "__init__" "Pattern.__init__" S_Pattern_I ["self"] f (PySem.W.fnOf "__init__" "Pattern.__init__" (defArgs S_Pattern_I) (defBody S_Pattern_I) (defScope S_Pattern_I) .none kV doc pm an cdv ct) := ⟨fun_mk l c k, L2.Binds.all fun us hl => match us, hl with | [_], _ => rfl, ⟨a, i, k⟩⟩
theorem mt_Pattern_has_edge {f : Addr} {oc : Value} {od an : Option Addr} {osl : Array (Option Value)} {kV doc pm cdv ct : Value} {C : Addr} (a : PySem.W.findIn K (.ref C) "has_edge" = some (some (.ref f))) (i : PySem.W.isFn K (.ref f) = true) (l : K.lookup f = some ⟨oc, od, .func (PySem.W.fnOf "has_edge" "Pattern.has_edge" (defArgs S_Pattern_has_edge) (defBody S_Pattern_has_edge) (defScope S_Pattern_has_edge) .none kV doc pm an cdv ct), osl⟩) (c : PySem.W.codeIn K cdv "Pattern.has_edge" = true) (k : PySem.W.keepIn K (.ref f) = true) :
    Mt1 K C "has_edge" "Pattern.has_edge" S_Pattern_has_edge ["self", "edge"] f (PySem.W.fnOf "has_edge" "Pattern.has_edge" (defArgs S_Pattern_has_edge) (defBody S_Pattern_has_edge) (defScope S_Pattern_has_edge) .none kV doc pm an cdv ct) := ⟨fun_mk l c k, L2.Binds.all fun us hl => match us, hl with | [_, _], _ => rfl, ⟨a, i, k⟩⟩
theorem mt_Pattern_sewn_to {f : Addr} {oc : Value} {od an : Option Addr} {osl : Array (Option Value)} {kV doc pm cdv ct : Value} {C : Addr} (a : PySem.W.findIn K (.ref C) "sewn_to" = some (some (.ref f))) (i : PySem.W.isFn K (.ref f) = true) (l : K.lookup f = some ⟨oc, od, .func (PySem.W.fnOf "sewn_to" "Pattern.sewn_to" (defArgs S_Pattern_sewn_to) (defBody S_Pattern_sewn_to) (defScope S_Pattern_sewn_to) .none kV doc pm an cdv ct), osl⟩) (c : PySem.W.codeIn K cdv "Pattern.sewn_to" = true) (k : PySem.W.keepIn K (.ref f) = true) :
    Mt1 K C "sewn_to" "Pattern.sewn_to" S_Pattern_sewn_to ["self", "edge"] f (PySem.W.fnOf "sewn_to" "Pattern.sewn_to" (defArgs S_Pattern_sewn_to) (defBody S_Pattern_sewn_to) (defScope S_Pattern_sewn_to) .none kV doc pm an cdv ct) := ⟨fun_mk l c k, L2.Binds.all fun us hl => match us, hl with | [_, _], _ => rfl, ⟨a, i, k⟩⟩
theorem mt_Pattern_length {f : Addr} {oc : Value} {od an : Option Addr} {osl : Array (Option Value)} {kV doc pm cdv ct : Value} {C : Addr} (a : PySem.W.findIn K (.ref C) "length" = some (some (.ref f))) (i : PySem.W.isFn K (.ref f) = true) (l : K.lookup f = some ⟨oc, od, .func (PySem.W.fnOf "length" "Pattern.length" (defArgs S_Pattern_length) (defBody S_Pattern_length) (defScope S_Pattern_length) .none kV doc pm an cdv ct), osl⟩) (c : PySem.W.codeIn K cdv "Pattern.length" = true) (k : PySem.W.keepIn K (.ref f) = true) :
    Mt1 K C "length" "Pattern.length" S_Pattern_length ["self", "edge"] f (PySem.W.fnOf "length" "Pattern.length" (defArgs S_Pattern_length) (defBody S_Pattern_length) (defScope S_Pattern_length) .none kV doc pm an cdv ct) := ⟨fun_mk l c k, L2.Binds.all fun us hl => match us, hl with | [_, _], _ => rfl, ⟨a, i, k⟩⟩
theorem mt_Pattern_are_of_one_length {f : Addr} {oc : Value} {od an : Option Addr} {osl : Array (Option Value)} {kV doc pm cdv ct : Value} {C : Addr} (a : PySem.W.findIn K (.ref C) "are_of_one_length" = some (some (.ref f))) (i : PySem.W.isFn K (.ref f) = true) (l : K.lookup f = some ⟨oc, od, .func (PySem.W.fnOf "are_of_one_length" "Pattern.are_of_one_length" (defArgs S_Pattern_are_of_one_length) (defBody S_Pattern_are_of_one_length) (defScope S_Pattern_are_of_one_length) .none kV doc pm an cdv ct), osl⟩) (c : PySem.W.codeIn K cdv "Pattern.are_of_one_length" = true) (k : PySem.W.keepIn K (.ref f) = true) :
    Mt1 K C "are_of_one_length" "Pattern.are_of_one_length" S_Pattern_are_of_one_length ["self", "first", "second"] f (PySem.W.fnOf "are_of_one_length" "Pattern.are_of_one_length" (defArgs S_Pattern_are_of_one_length) (defBody S_Pattern_are_of_one_length) (defScope S_Pattern_are_of_one_length) .none kV doc pm an cdv ct) := ⟨fun_mk l c k, L2.Binds.all fun us hl => match us, hl with | [_, _, _], _ => rfl, ⟨a, i, k⟩⟩
theorem mk_pieces_may_be (X : K.In h) (G : h.Ns mainGlobals mg) {f : Addr} {oc : Value} {od an : Option Addr} {osl : Array (Option Value)} {kV doc pm cdv ct : Value} (a : PySem.W.nsIn K mainGlobals "pieces_may_be" = some (some (.ref f))) (l : K.lookup f = some ⟨oc, od, .func (PySem.W.fnOf "pieces_may_be" "pieces_may_be" (defArgs S_pieces_may_be) (defBody S_pieces_may_be) (defScope S_pieces_may_be) .none kV doc pm an cdv ct), osl⟩) (c : PySem.W.codeIn K cdv "pieces_may_be" = true) (k : PySem.W.keepIn K (.ref f) = true) :
    Fn1 K mg "pieces_may_be" S_pieces_may_be ["pattern"] f (PySem.W.fnOf "pieces_may_be" "pieces_may_be" (defArgs S_pieces_may_be) (defBody S_pieces_may_be) (defScope S_pieces_may_be) .none kV doc pm an cdv ct) := ⟨fun_mk l c k, L2.Binds.all fun us hl => match us, hl with | [_], _ => rfl, PySem.W.mg_of X G a⟩
theorem mk_seams_may_be (X : K.In h) (G : h.Ns mainGlobals mg) {f : Addr} {oc : Value} {od an : Option Addr} {osl : Array (Option Value)} {kV doc pm cdv ct : Value} (a : PySem.W.nsIn K mainGlobals "seams_may_be" = some (some (.ref f))) (l : K.lookup f = some ⟨oc, od, .func (PySem.W.fnOf "seams_may_be" "seams_may_be" (defArgs S_seams_may_be) (defBody S_seams_may_be) (defScope S_seams_may_be) .none kV doc pm an cdv ct), osl⟩) (c : PySem.W.codeIn K cdv "seams_may_be" = true) (k : PySem.W.keepIn K (.ref f) = true) :
    Fn1 K mg "seams_may_be" S_seams_may_be ["pattern"] f (PySem.W.fnOf "seams_may_be" "seams_may_be" (defArgs S_seams_may_be) (defBody S_seams_may_be) (defScope S_seams_may_be) .none kV doc pm an cdv ct) := ⟨fun_mk l c k, L2.Binds.all fun us hl => match us, hl with | [_], _ => rfl, PySem.W.mg_of X G a⟩
theorem mk_line_of (X : K.In h) (G : h.Ns mainGlobals mg) {f : Addr} {oc : Value} {od an : Option Addr} {osl : Array (Option Value)} {kV doc pm cdv ct : Value} (a : PySem.W.nsIn K mainGlobals "line_of" = some (some (.ref f))) (l : K.lookup f = some ⟨oc, od, .func (PySem.W.fnOf "line_of" "line_of" (defArgs S_line_of) (defBody S_line_of) (defScope S_line_of) .none kV doc pm an cdv ct), osl⟩) (c : PySem.W.codeIn K cdv "line_of" = true) (k : PySem.W.keepIn K (.ref f) = true) :
    Fn1 K mg "line_of" S_line_of ["words"] f (PySem.W.fnOf "line_of" "line_of" (defArgs S_line_of) (defBody S_line_of) (defScope S_line_of) .none kV doc pm an cdv ct) := ⟨fun_mk l c k, L2.Binds.all fun us hl => match us, hl with | [_], _ => rfl, PySem.W.mg_of X G a⟩
theorem mk_point_words (X : K.In h) (G : h.Ns mainGlobals mg) {f : Addr} {oc : Value} {od an : Option Addr} {osl : Array (Option Value)} {kV doc pm cdv ct : Value} (a : PySem.W.nsIn K mainGlobals "point_words" = some (some (.ref f))) (l : K.lookup f = some ⟨oc, od, .func (PySem.W.fnOf "point_words" "point_words" (defArgs S_point_words) (defBody S_point_words) (defScope S_point_words) .none kV doc pm an cdv ct), osl⟩) (c : PySem.W.codeIn K cdv "point_words" = true) (k : PySem.W.keepIn K (.ref f) = true) :
    Fn1 K mg "point_words" S_point_words ["point"] f (PySem.W.fnOf "point_words" "point_words" (defArgs S_point_words) (defBody S_point_words) (defScope S_point_words) .none kV doc pm an cdv ct) := ⟨fun_mk l c k, L2.Binds.all fun us hl => match us, hl with | [_], _ => rfl, PySem.W.mg_of X G a⟩
theorem mk_places_text (X : K.In h) (G : h.Ns mainGlobals mg) {f : Addr} {oc : Value} {od an : Option Addr} {osl : Array (Option Value)} {kV doc pm cdv ct : Value} (a : PySem.W.nsIn K mainGlobals "places_text" = some (some (.ref f))) (l : K.lookup f = some ⟨oc, od, .func (PySem.W.fnOf "places_text" "places_text" (defArgs S_places_text) (defBody S_places_text) (defScope S_places_text) .none kV doc pm an cdv ct), osl⟩) (c : PySem.W.codeIn K cdv "places_text" = true) (k : PySem.W.keepIn K (.ref f) = true) :
    Fn1 K mg "places_text" S_places_text ["places"] f (PySem.W.fnOf "places_text" "places_text" (defArgs S_places_text) (defBody S_places_text) (defScope S_places_text) .none kV doc pm an cdv ct) := ⟨fun_mk l c k, L2.Binds.all fun us hl => match us, hl with | [_], _ => rfl, PySem.W.mg_of X G a⟩
theorem mk_point_of_words (X : K.In h) (G : h.Ns mainGlobals mg) {f : Addr} {oc : Value} {od an : Option Addr} {osl : Array (Option Value)} {kV doc pm cdv ct : Value} (a : PySem.W.nsIn K mainGlobals "point_of_words" = some (some (.ref f))) (l : K.lookup f = some ⟨oc, od, .func (PySem.W.fnOf "point_of_words" "point_of_words" (defArgs S_point_of_words) (defBody S_point_of_words) (defScope S_point_of_words) .none kV doc pm an cdv ct), osl⟩) (c : PySem.W.codeIn K cdv "point_of_words" = true) (k : PySem.W.keepIn K (.ref f) = true) :
    Fn1 K mg "point_of_words" S_point_of_words ["words"] f (PySem.W.fnOf "point_of_words" "point_of_words" (defArgs S_point_of_words) (defBody S_point_of_words) (defScope S_point_of_words) .none kV doc pm an cdv ct) := ⟨fun_mk l c k, L2.Binds.all fun us hl => match us, hl with | [_], _ => rfl, PySem.W.mg_of X G a⟩
theorem mk_index_of_word (X : K.In h) (G : h.Ns mainGlobals mg) {f : Addr} {oc : Value} {od an : Option Addr} {osl : Array (Option Value)} {kV doc pm cdv ct : Value} (a : PySem.W.nsIn K mainGlobals "index_of_word" = some (some (.ref f))) (l : K.lookup f = some ⟨oc, od, .func (PySem.W.fnOf "index_of_word" "index_of_word" (defArgs S_index_of_word) (defBody S_index_of_word) (defScope S_index_of_word) .none kV doc pm an cdv ct), osl⟩) (c : PySem.W.codeIn K cdv "index_of_word" = true) (k : PySem.W.keepIn K (.ref f) = true) :
    Fn1 K mg "index_of_word" S_index_of_word ["word"] f (PySem.W.fnOf "index_of_word" "index_of_word" (defArgs S_index_of_word) (defBody S_index_of_word) (defScope S_index_of_word) .none kV doc pm an cdv ct) := ⟨fun_mk l c k, L2.Binds.all fun us hl => match us, hl with | [_], _ => rfl, PySem.W.mg_of X G a⟩
theorem mk_is_piece_name (X : K.In h) (G : h.Ns mainGlobals mg) {f : Addr} {oc : Value} {od an : Option Addr} {osl : Array (Option Value)} {kV doc pm cdv ct : Value} (a : PySem.W.nsIn K mainGlobals "is_piece_name" = some (some (.ref f))) (l : K.lookup f = some ⟨oc, od, .func (PySem.W.fnOf "is_piece_name" "is_piece_name" (defArgs S_is_piece_name) (defBody S_is_piece_name) (defScope S_is_piece_name) .none kV doc pm an cdv ct), osl⟩) (c : PySem.W.codeIn K cdv "is_piece_name" = true) (k : PySem.W.keepIn K (.ref f) = true) :
    Fn1 K mg "is_piece_name" S_is_piece_name ["word"] f (PySem.W.fnOf "is_piece_name" "is_piece_name" (defArgs S_is_piece_name) (defBody S_is_piece_name) (defScope S_is_piece_name) .none kV doc pm an cdv ct) := ⟨fun_mk l c k, L2.Binds.all fun us hl => match us, hl with | [_], _ => rfl, PySem.W.mg_of X G a⟩
theorem mk_last_is_whole (X : K.In h) (G : h.Ns mainGlobals mg) {f : Addr} {oc : Value} {od an : Option Addr} {osl : Array (Option Value)} {kV doc pm cdv ct : Value} (a : PySem.W.nsIn K mainGlobals "last_is_whole" = some (some (.ref f))) (l : K.lookup f = some ⟨oc, od, .func (PySem.W.fnOf "last_is_whole" "last_is_whole" (defArgs S_last_is_whole) (defBody S_last_is_whole) (defScope S_last_is_whole) .none kV doc pm an cdv ct), osl⟩) (c : PySem.W.codeIn K cdv "last_is_whole" = true) (k : PySem.W.keepIn K (.ref f) = true) :
    Fn1 K mg "last_is_whole" S_last_is_whole ["pattern"] f (PySem.W.fnOf "last_is_whole" "last_is_whole" (defArgs S_last_is_whole) (defBody S_last_is_whole) (defScope S_last_is_whole) .none kV doc pm an cdv ct) := ⟨fun_mk l c k, L2.Binds.all fun us hl => match us, hl with | [_], _ => rfl, PySem.W.mg_of X G a⟩
theorem mk_add_piece (X : K.In h) (G : h.Ns mainGlobals mg) {f : Addr} {oc : Value} {od an : Option Addr} {osl : Array (Option Value)} {kV doc pm cdv ct : Value} (a : PySem.W.nsIn K mainGlobals "add_piece" = some (some (.ref f))) (l : K.lookup f = some ⟨oc, od, .func (PySem.W.fnOf "add_piece" "add_piece" (defArgs S_add_piece) (defBody S_add_piece) (defScope S_add_piece) .none kV doc pm an cdv ct), osl⟩) (c : PySem.W.codeIn K cdv "add_piece" = true) (k : PySem.W.keepIn K (.ref f) = true) :
    Fn1 K mg "add_piece" S_add_piece ["pattern", "words"] f (PySem.W.fnOf "add_piece" "add_piece" (defArgs S_add_piece) (defBody S_add_piece) (defScope S_add_piece) .none kV doc pm an cdv ct) := ⟨fun_mk l c k, L2.Binds.all fun us hl => match us, hl with | [_, _], _ => rfl, PySem.W.mg_of X G a⟩
theorem mk_add_corner (X : K.In h) (G : h.Ns mainGlobals mg) {f : Addr} {oc : Value} {od an : Option Addr} {osl : Array (Option Value)} {kV doc pm cdv ct : Value} (a : PySem.W.nsIn K mainGlobals "add_corner" = some (some (.ref f))) (l : K.lookup f = some ⟨oc, od, .func (PySem.W.fnOf "add_corner" "add_corner" (defArgs S_add_corner) (defBody S_add_corner) (defScope S_add_corner) .none kV doc pm an cdv ct), osl⟩) (c : PySem.W.codeIn K cdv "add_corner" = true) (k : PySem.W.keepIn K (.ref f) = true) :
    Fn1 K mg "add_corner" S_add_corner ["pattern", "words"] f (PySem.W.fnOf "add_corner" "add_corner" (defArgs S_add_corner) (defBody S_add_corner) (defScope S_add_corner) .none kV doc pm an cdv ct) := ⟨fun_mk l c k, L2.Binds.all fun us hl => match us, hl with | [_, _], _ => rfl, PySem.W.mg_of X G a⟩
theorem mk_add_seam (X : K.In h) (G : h.Ns mainGlobals mg) {f : Addr} {oc : Value} {od an : Option Addr} {osl : Array (Option Value)} {kV doc pm cdv ct : Value} (a : PySem.W.nsIn K mainGlobals "add_seam" = some (some (.ref f))) (l : K.lookup f = some ⟨oc, od, .func (PySem.W.fnOf "add_seam" "add_seam" (defArgs S_add_seam) (defBody S_add_seam) (defScope S_add_seam) .none kV doc pm an cdv ct), osl⟩) (c : PySem.W.codeIn K cdv "add_seam" = true) (k : PySem.W.keepIn K (.ref f) = true) :
    Fn1 K mg "add_seam" S_add_seam ["pattern", "words"] f (PySem.W.fnOf "add_seam" "add_seam" (defArgs S_add_seam) (defBody S_add_seam) (defScope S_add_seam) .none kV doc pm an cdv ct) := ⟨fun_mk l c k, L2.Binds.all fun us hl => match us, hl with | [_, _], _ => rfl, PySem.W.mg_of X G a⟩
theorem mk_add_line (X : K.In h) (G : h.Ns mainGlobals mg) {f : Addr} {oc : Value} {od an : Option Addr} {osl : Array (Option Value)} {kV doc pm cdv ct : Value} (a : PySem.W.nsIn K mainGlobals "add_line" = some (some (.ref f))) (l : K.lookup f = some ⟨oc, od, .func (PySem.W.fnOf "add_line" "add_line" (defArgs S_add_line) (defBody S_add_line) (defScope S_add_line) .none kV doc pm an cdv ct), osl⟩) (c : PySem.W.codeIn K cdv "add_line" = true) (k : PySem.W.keepIn K (.ref f) = true) :
    Fn1 K mg "add_line" S_add_line ["pattern", "words"] f (PySem.W.fnOf "add_line" "add_line" (defArgs S_add_line) (defBody S_add_line) (defScope S_add_line) .none kV doc pm an cdv ct) := ⟨fun_mk l c k, L2.Binds.all fun us hl => match us, hl with | [_, _], _ => rfl, PySem.W.mg_of X G a⟩
theorem mk_read_pattern (X : K.In h) (G : h.Ns mainGlobals mg) {f : Addr} {oc : Value} {od an : Option Addr} {osl : Array (Option Value)} {kV doc pm cdv ct : Value} (a : PySem.W.nsIn K mainGlobals "read_pattern" = some (some (.ref f))) (l : K.lookup f = some ⟨oc, od, .func (PySem.W.fnOf "read_pattern" "read_pattern" (defArgs S_read_pattern) (defBody S_read_pattern) (defScope S_read_pattern) .none kV doc pm an cdv ct), osl⟩) (c : PySem.W.codeIn K cdv "read_pattern" = true) (k : PySem.W.keepIn K (.ref f) = true) :
    Fn1 K mg "read_pattern" S_read_pattern ["p"] f (PySem.W.fnOf "read_pattern" "read_pattern" (defArgs S_read_pattern) (defBody S_read_pattern) (defScope S_read_pattern) .none kV doc pm an cdv ct) := ⟨fun_mk l c k, L2.Binds.all fun us hl => match us, hl with | [_], _ => rfl, PySem.W.mg_of X G a⟩
theorem mk_answer (X : K.In h) (G : h.Ns mainGlobals mg) {f : Addr} {oc : Value} {od an : Option Addr} {osl : Array (Option Value)} {kV doc pm cdv ct : Value} (a : PySem.W.nsIn K mainGlobals "answer" = some (some (.ref f))) (l : K.lookup f = some ⟨oc, od, .func (PySem.W.fnOf "answer" "answer" (defArgs sAnsw) (defBody sAnsw) (defScope sAnsw) .none kV doc pm an cdv ct), osl⟩) (c : PySem.W.codeIn K cdv "answer" = true) (k : PySem.W.keepIn K (.ref f) = true) :
    Fn1 K mg "answer" sAnsw ["number", "told", "signed"] f (PySem.W.fnOf "answer" "answer" (defArgs sAnsw) (defBody sAnsw) (defScope sAnsw) .none kV doc pm an cdv ct) := ⟨fun_mk l c k, L2.Binds.all fun us hl => match us, hl with | [_, _, _], _ => rfl, PySem.W.mg_of X G a⟩
theorem mk_check_lengths (X : K.In h) (G : h.Ns mainGlobals mg) {f : Addr} {oc : Value} {od an : Option Addr} {osl : Array (Option Value)} {kV doc pm cdv ct : Value} (a : PySem.W.nsIn K mainGlobals "check_lengths" = some (some (.ref f))) (l : K.lookup f = some ⟨oc, od, .func (PySem.W.fnOf "check_lengths" "check_lengths" (defArgs sCheck) (defBody sCheck) (defScope sCheck) .none kV doc pm an cdv ct), osl⟩) (c : PySem.W.codeIn K cdv "check_lengths" = true) (k : PySem.W.keepIn K (.ref f) = true) :
    Fn1 K mg "check_lengths" sCheck ["texts"] f (PySem.W.fnOf "check_lengths" "check_lengths" (defArgs sCheck) (defBody sCheck) (defScope sCheck) .none kV doc pm an cdv ct) := ⟨fun_mk l c k, L2.Binds.all fun us hl => match us, hl with | [_], _ => rfl, PySem.W.mg_of X G a⟩
theorem mk_number_handed_in (X : K.In h) (G : h.Ns mainGlobals mg) {f : Addr} {oc : Value} {od an : Option Addr} {osl : Array (Option Value)} {kV doc pm cdv ct : Value} (a : PySem.W.nsIn K mainGlobals "number_handed_in" = some (some (.ref f))) (l : K.lookup f = some ⟨oc, od, .func (PySem.W.fnOf "number_handed_in" "number_handed_in" (defArgs S_number_handed_in) (defBody S_number_handed_in) (defScope S_number_handed_in) .none kV doc pm an cdv ct), osl⟩) (c : PySem.W.codeIn K cdv "number_handed_in" = true) (k : PySem.W.keepIn K (.ref f) = true) :
    Fn1 K mg "number_handed_in" S_number_handed_in ["above", "below"] f (PySem.W.fnOf "number_handed_in" "number_handed_in" (defArgs S_number_handed_in) (defBody S_number_handed_in) (defScope S_number_handed_in) .none kV doc pm an cdv ct) := ⟨fun_mk l c k, L2.Binds.all fun us hl => match us, hl with | [_, _], _ => rfl, PySem.W.mg_of X G a⟩
theorem mk_point_handed_in (X : K.In h) (G : h.Ns mainGlobals mg) {f : Addr} {oc : Value} {od an : Option Addr} {osl : Array (Option Value)} {kV doc pm cdv ct : Value} (a : PySem.W.nsIn K mainGlobals "point_handed_in" = some (some (.ref f))) (l : K.lookup f = some ⟨oc, od, .func (PySem.W.fnOf "point_handed_in" "point_handed_in" (defArgs S_point_handed_in) (defBody S_point_handed_in) (defScope S_point_handed_in) .none kV doc pm an cdv ct), osl⟩) (c : PySem.W.codeIn K cdv "point_handed_in" = true) (k : PySem.W.keepIn K (.ref f) = true) :
    Fn1 K mg "point_handed_in" S_point_handed_in ["x_above", "x_below", "y_above", "y_below"] f (PySem.W.fnOf "point_handed_in" "point_handed_in" (defArgs S_point_handed_in) (defBody S_point_handed_in) (defScope S_point_handed_in) .none kV doc pm an cdv ct) := ⟨fun_mk l c k, L2.Binds.all fun us hl => match us, hl with | [_, _, _, _], _ => rfl, PySem.W.mg_of X G a⟩
theorem mk_piece_at (X : K.In h) (G : h.Ns mainGlobals mg) {f : Addr} {oc : Value} {od an : Option Addr} {osl : Array (Option Value)} {kV doc pm cdv ct : Value} (a : PySem.W.nsIn K mainGlobals "piece_at" = some (some (.ref f))) (l : K.lookup f = some ⟨oc, od, .func (PySem.W.fnOf "piece_at" "piece_at" (defArgs S_piece_at) (defBody S_piece_at) (defScope S_piece_at) .none kV doc pm an cdv ct), osl⟩) (c : PySem.W.codeIn K cdv "piece_at" = true) (k : PySem.W.keepIn K (.ref f) = true) :
    Fn1 K mg "piece_at" S_piece_at ["pattern", "k"] f (PySem.W.fnOf "piece_at" "piece_at" (defArgs S_piece_at) (defBody S_piece_at) (defScope S_piece_at) .none kV doc pm an cdv ct) := ⟨fun_mk l c k, L2.Binds.all fun us hl => match us, hl with | [_, _], _ => rfl, PySem.W.mg_of X G a⟩
theorem mk_check_place (X : K.In h) (G : h.Ns mainGlobals mg) {f : Addr} {oc : Value} {od an : Option Addr} {osl : Array (Option Value)} {kV doc pm cdv ct : Value} (a : PySem.W.nsIn K mainGlobals "check_place" = some (some (.ref f))) (l : K.lookup f = some ⟨oc, od, .func (PySem.W.fnOf "check_place" "check_place" (defArgs S_check_place) (defBody S_check_place) (defScope S_check_place) .none kV doc pm an cdv ct), osl⟩) (c : PySem.W.codeIn K cdv "check_place" = true) (k : PySem.W.keepIn K (.ref f) = true) :
    Fn1 K mg "check_place" S_check_place ["pattern", "k", "point"] f (PySem.W.fnOf "check_place" "check_place" (defArgs S_check_place) (defBody S_check_place) (defScope S_check_place) .none kV doc pm an cdv ct) := ⟨fun_mk l c k, L2.Binds.all fun us hl => match us, hl with | [_, _, _], _ => rfl, PySem.W.mg_of X G a⟩
theorem mk_ones (X : K.In h) (G : h.Ns mainGlobals mg) {f : Addr} {oc : Value} {od an : Option Addr} {osl : Array (Option Value)} {kV doc pm cdv ct : Value} (a : PySem.W.nsIn K mainGlobals "ones" = some (some (.ref f))) (l : K.lookup f = some ⟨oc, od, .func (PySem.W.fnOf "ones" "ones" (defArgs S_ones) (defBody S_ones) (defScope S_ones) .none kV doc pm an cdv ct), osl⟩) (c : PySem.W.codeIn K cdv "ones" = true) (k : PySem.W.keepIn K (.ref f) = true) :
    Fn1 K mg "ones" S_ones ["k", "x_above", "x_below", "y_above", "y_below", "p"] f (PySem.W.fnOf "ones" "ones" (defArgs S_ones) (defBody S_ones) (defScope S_ones) .none kV doc pm an cdv ct) := ⟨fun_mk l c k, L2.Binds.all fun us hl => match us, hl with | [_, _, _, _, _, _], _ => rfl, PySem.W.mg_of X G a⟩
end
end SDP
set_option Elab.async false
set_option linter.all false
set_option maxRecDepth 100000
set_option maxHeartbeats 4000000
/-! # Errors together; bytes handed in -/
namespace SDP
open PySem PySem.Spec PyProof.Rows L2 SDX SD TL
open SeamNum (Bytes)
section
variable {w : World} {K : PySem.W.Frag} {h : Heap} {mg : Str → Option Value}
theorem mk_refc {cRef fRef cT fTo : Addr} {dRef dTo : FuncData} {mc : Value} (X : K.In h) (G : h.Ns mainGlobals mg)
    (eR : ErrC K mg "Refusal" cRef fRef ∧ L2.Fun K "__init__" "Refusal.__init__" sRefI fRef dRef ∧ L2.Binds K dRef ["self", "number", "signed"] []) (eT : ErrC K mg "TooLong" cT fTo ∧ L2.Fun K "__init__" "TooLong.__init__" sTooI fTo dTo ∧ L2.Binds K dTo ["self"] [])
    (r1 : PySem.W.readsIn K cRef mc = true) (r2 : PySem.W.specialIn K (.ref cRef) "__getattribute__" = some (some (.builtin "type.__getattribute__"))) (r3 : PySem.W.findCls K (.ref cRef) mc "__init__" = some (.val (.ref fRef)))
    (zE : PySem.W.nsIn K mainGlobals "Exception" = some none) (vE : PySem.W.findCls K (.type "Exception") (.type "type") "__init__" = some (.val (.builtin "Exception.__init__"))) (xT : PySem.W.exmOne K (.ref cT) (.ref cRef) = some true) : RefC K mg ⟨cRef, fRef, dRef, mc, cT, fTo, dTo⟩ :=
  { ref := eR.1, FRef := eR.2.1, bRef := eR.2.2, cr := ⟨r1, r2⟩, cv := r3, mE := PySem.W.mg_none_of X G zE, vE := vE, too := eT.1, FT := eT.2.1, bT := eT.2.2, xT := xT }
end
/-! ### bytes handed in -/
theorem text_is (b : Bytes) : DraftsNeutral.text (b.map fun c => (c.toNat : Int)) = b := by
  unfold DraftsNeutral.text DraftsNeutral.nats
  rw [List.map_map, List.map_map]
  conv => rhs; rw [← List.map_id b]
  refine List.map_congr_left fun c _ => ?_
  show UInt8.ofNat ((c.toNat : Int)).toNat = c
  rw [Int.toNat_natCast]
  exact UInt8.ofNat_toNat
theorem bytes_are {ns : List Int} (h : ∀ n ∈ ns, 0 ≤ n ∧ n ≤ 255) : ns = (DraftsNeutral.text ns).map fun c => (c.toNat : Int) := by
  unfold DraftsNeutral.text DraftsNeutral.nats
  rw [List.map_map, List.map_map]
  conv => lhs; rw [← List.map_id ns]
  refine List.map_congr_left fun n hn => ?_
  obtain ⟨h1, h2⟩ := h n hn
  show n = ((UInt8.ofNat n.toNat).toNat : Int)
  rw [UInt8.toNat_ofNat']
  omega
/-- a list of bytes that the codec lets in -/
theorem bytes_in {K : PySem.W.Frag} {H : Hp} {p : Addr} {ns : List Int} (hs : SqL K H p (ns.map V.int)) (hw : PySem.W.Codec.inList 0 4200 (PySem.W.Codec.inInt 0 255) ns = true) : ∃ b : Bytes, ns = b.map (fun c => (c.toNat : Int)) ∧ BytesL K H p b ∧ b.length ≤ 4200 := by
  unfold PySem.W.Codec.inList PySem.W.Codec.inLen PySem.W.Codec.inNat PySem.W.Codec.inInt at hw
  simp only [Bool.and_eq_true, decide_eq_true_eq, List.all_eq_true] at hw
  have hb : ns = (DraftsNeutral.text ns).map fun c => (c.toNat : Int) := bytes_are fun n hn => by
    have q := hw.2 n hn
    omega
  have hl : (DraftsNeutral.text ns).length = ns.length := by
    conv => rhs; rw [hb]
    rw [List.length_map]
  refine ⟨DraftsNeutral.text ns, hb, ?_, by rw [hl]; omega⟩
  show SqL K H p ((DraftsNeutral.text ns).map fun c => V.int (c.toNat : Int))
  have e : ((DraftsNeutral.text ns).map fun c => V.int (c.toNat : Int)) = ns.map V.int := by
    conv => rhs; rw [hb]
    rw [List.map_map]
    rfl
  rw [e]
  exact hs
theorem looked_long {l : List Bytes} {b : Bytes} (hb : b ∈ l) (h : 4096 < b.length) (a : Unit → Drafts.Answer) : Drafts.looked l a = SeamNum.says (-1) := by
  unfold Drafts.looked
  rw [if_pos]
  rw [List.any_eq_true]
  exact ⟨b, hb, by simp [Drafts.TEXT, h]⟩
theorem looked_short {l : List Bytes} (h : ∀ b ∈ l, b.length ≤ 4096) (a : Unit → Drafts.Answer) : Drafts.looked l a = a () := by
  unfold Drafts.looked
  rw [if_neg]
  rw [List.any_eq_true]
  rintro ⟨b, hb, z⟩
  have := h b hb
  have := of_decide_eq_true z
  simp [Drafts.TEXT] at this
  omega
end SDP
namespace SDP
open PySem PySem.Spec PyProof.Rows L2 SDX SD TL
/-- what holds of one written part, of one class -/
structure Tied (K : PySem.W.Frag) (T : Addr) (Z : Prop) : Prop where
  is : Z
section
variable {w : World} {K : PySem.W.Frag} {h : Heap} {mg : Str → Option Value}
/-- of one written part -/
theorem tie_err {Z : Prop} {x q : Str} {s : Stmt} {c f C : Addr} {d : FuncData} {ps : List Str} (X : K.In h) (G : h.Ns mainGlobals mg) (e : ErrC K mg x c f ∧ L2.Fun K "__init__" q s f d ∧ L2.Binds K d ps []) (rC : PySem.W.nsIn K mainGlobals "Refusal" = some (some (.ref C))) (y : PySem.W.exmOne K (.ref c) (.ref C) = some true) (z : Z) :
    (ErrC K mg x c f ∧ L2.Fun K "__init__" q s f d ∧ L2.Binds K d ps []) ∧ (∃ C, mg "Refusal" = some (.ref C) ∧ PySem.W.exmOne K (.ref c) (.ref C) = some true) ∧ Z := ⟨e, ⟨C, PySem.W.mg_of X G rC, y⟩, z⟩
theorem same_cls {R : RefAd} {C c : Addr} (h : RefC K mg R) (g : mg "Refusal" = some (.ref C)) (x : PySem.W.exmOne K (.ref c) (.ref C) = some true) : PySem.W.exmOne K (.ref c) (.ref R.cRef) = some true := by
  have q := h.ref.g
  rw [g] at q
  injection q with q
  injection q with q
  rw [← q]
  exact x
theorem tie_mt {T : Addr} {Z : Prop} {x q : Str} {s : Stmt} {f : Addr} {d : FuncData} {ps : List Str} (e : Mt1 K T x q s ps f d) (z : Tied K T Z) : Tied K T (Mt1 K T x q s ps f d ∧ Z) := ⟨e, z.is⟩
theorem tie_mt1 {T : Addr} {x q : Str} {s : Stmt} {f : Addr} {d : FuncData} {ps : List Str} (e : Mt1 K T x q s ps f d) : Tied K T (Mt1 K T x q s ps f d) := ⟨e⟩
end
end SDP
set_option Elab.async false
set_option linter.all false
set_option maxRecDepth 100000
set_option maxHeartbeats 4000000
/-! # Classes and errors together -/
namespace SDP
open PySem PySem.Spec PyProof.Rows L2 SDX SD TL SR
open SeamNum (Bytes)
section
variable {w : World} {K : PySem.W.Frag} {h : Heap} {mg : Str → Option Value}
/-- what a tuple of two refs, of two ints, holds -/
def refsOf (o : Obj) : Option (Addr × Addr) := match o.cls, o.data with
  | .type "tuple", .seq its _ => match its.toList with
    | [.ref a, .ref b] => some (a, b)
    | _ => none
  | _, _ => none
def intsOf (o : Obj) : Option (Int × Int) := match o.cls, o.data with
  | .type "tuple", .seq its _ => match its.toList with
    | [.int a _, .int b _] => some (a, b)
    | _ => none
  | _, _ => none
theorem refs_ok {p a b : Addr} {o : Obj} (l : K.lookup p = some o) (e : refsOf o = some (a, b)) (H : Hp) : SqT K H p [.ref a, .ref b] := by
  unfold refsOf at e
  split at e
  · rename_i its n hc hd
    split at e
    · rename_i x y hl
      cases e
      refine .inr ⟨o, its, n, l, hc, hd, ?_, by rw [hl]; exact .cons rfl (.cons rfl .nil)⟩
      have : its.size = 2 := by rw [← Array.length_toList, hl]; rfl
      rw [this, sizeLine_eq]
      decide
    · cases e
  · cases e
theorem ints_ok {p : Addr} {a b : Int} {o : Obj} (l : K.lookup p = some o) (e : intsOf o = some (a, b)) (H : Hp) : SqT K H p [.int a, .int b] := by
  unfold intsOf at e
  split at e
  · rename_i its n hc hd
    split at e
    · rename_i x t y u hl
      cases e
      refine .inr ⟨o, its, n, l, hc, hd, ?_, by rw [hl]; exact .cons ⟨t, rfl⟩ (.cons ⟨u, rfl⟩ .nil)⟩
      have : its.size = 2 := by rw [← Array.length_toList, hl]; rfl
      rw [this, sizeLine_eq]
      decide
    · cases e
  · cases e
theorem mk_nodir (X : K.In h) (G : h.Ns mainGlobals mg) {p a b : Addr} {o o1 o2 : Obj} (aN : PySem.W.nsIn K mainGlobals "NO_DIRECTION" = some (some (.ref p))) (l : K.lookup p = some o) (e : refsOf o = some (a, b)) (l1 : K.lookup a = some o1) (e1 : intsOf o1 = some (0, 1)) (l2 : K.lookup b = some o2) (e2 : intsOf o2 = some (0, 1)) : NoDir K mg :=
  ⟨p, PySem.W.mg_of X G aN, fun H => .tup (refs_ok l e H) (.cons (.tup (ints_ok l1 e1 H) (.cons (.int _) (.cons (.int _) .nil))) (.cons (.tup (ints_ok l2 e2 H) (.cons (.int _) (.cons (.int _) .nil))) .nil))⟩
theorem mk_patc {CT fTI CP fPI : Addr} {dTI dPI : FuncData} (X : K.In h) (G : h.Ns mainGlobals mg) (aT : PySem.W.nsIn K mainGlobals "Pattern" = some (some (.ref CT)))
    (tpg : PySem.W.plainGet K CT Str.empty = true) (thd : PySem.W.hasDictIn K CT = true) (tpo : PySem.W.plainOver K CT = true) (tsa : PySem.W.findIn K (.ref CT) "__setattr__" = some (some (.builtin "object.__setattr__"))) (tmk : PySem.W.makesIn K CT = true) (tkc : PySem.W.keepIn K (.ref CT) = true)
    (nTp : PySem.W.findIn K (.ref CT) "pieces" = some none) (nTs : PySem.W.findIn K (.ref CT) "seams" = some none) (hTI : Mt1 K CT "__init__" "Pattern.__init__" S_Pattern_I ["self"] fTI dTI)
    (aP : PySem.W.nsIn K mainGlobals "Piece" = some (some (.ref CP)))
    (ppg : PySem.W.plainGet K CP Str.empty = true) (phd : PySem.W.hasDictIn K CP = true) (ppo : PySem.W.plainOver K CP = true) (psa : PySem.W.findIn K (.ref CP) "__setattr__" = some (some (.builtin "object.__setattr__"))) (pmk : PySem.W.makesIn K CP = true) (pkc : PySem.W.keepIn K (.ref CP) = true)
    (nPn : PySem.W.findIn K (.ref CP) "name" = some none) (nPg : PySem.W.findIn K (.ref CP) "grain" = some none) (nPc : PySem.W.findIn K (.ref CP) "corners" = some none) (hPI : Mt1 K CP "__init__" "Piece.__init__" S_Piece_I ["self", "name", "grain", "corners"] fPI dPI) : PatC K mg ⟨CT, fTI, dTI, CP, fPI, dPI⟩ :=
  { gT := PySem.W.mg_of X G aT, clT := ⟨tpg, thd, tpo, tsa⟩, nTp := nTp, nTs := nTs, madeT := ⟨tmk, hTI.m.at_, hTI.m.fn, tkc⟩, IT := hTI, gP := PySem.W.mg_of X G aP, clP := ⟨ppg, phd, ppo, psa⟩, nPn := nPn, nPg := nPg, nPc := nPc, madeP := ⟨pmk, hPI.m.at_, hPI.m.fn, pkc⟩, IP := hPI }
theorem tie_pat {D : PAd} {Z : Prop} (C : PatC K mg D) (z : Tied K D.CT Z) : PatC K mg D ∧ Z := ⟨C, z.is⟩
end
end SDP
set_option Elab.async false
set_option linter.all false
set_option maxRecDepth 100000
set_option maxHeartbeats 4000000
set_option exponentiation.threshold 100000
/-! # garment.py: an edge's ends, parts of a way -/
namespace SDP
open PySem PySem.Spec PyProof.Rows L2 SDX SD TL SR
open SeamNum (Bytes fits FINE Point fitsP)
open SeamPattern (Edge Seam Place)
def B2 (b : Nat) (x y : Int) : Prop := x.natAbs < 2 ^ b ∧ y.natAbs < 2 ^ b
theorem bmono {x : Int} {a b : Nat} (h : x.natAbs < 2 ^ a) (k : a ≤ b) : x.natAbs < 2 ^ b := Nat.lt_of_lt_of_le h (Nat.pow_le_pow_right (by decide) k)
theorem bneg {x : Int} {a : Nat} (h : x.natAbs < 2 ^ a) : (-x).natAbs < 2 ^ a := by rw [Int.natAbs_neg]; exact h
theorem bmul {x y : Int} {a b : Nat} (h : x.natAbs < 2 ^ a) (k : y.natAbs < 2 ^ b) : (x * y).natAbs < 2 ^ (a + b) := by
  rw [Int.natAbs_mul]
  exact mul_bits h k
theorem badd {x y : Int} {a b : Nat} (h : x.natAbs < 2 ^ a) (k : y.natAbs < 2 ^ b) : (x + y).natAbs < 2 ^ (max a b + 1) := by
  have h1 := bmono h (Nat.le_max_left a b)
  have h2 := bmono k (Nat.le_max_right a b)
  rw [Nat.pow_succ]
  omega
theorem bsub {x y : Int} {a b : Nat} (h : x.natAbs < 2 ^ a) (k : y.natAbs < 2 ^ b) : (x - y).natAbs < 2 ^ (max a b + 1) := by
  have h1 := bmono h (Nat.le_max_left a b)
  have h2 := bmono k (Nat.le_max_right a b)
  rw [Nat.pow_succ]
  omega
def dotI (a b c d : Int) : Int := a * c + b * d
def crossT (a b c d : Int) : Int := a * d - b * c
theorem dot_bits {a b c d : Int} {m n : Nat} (h : B2 m a b) (k : B2 n c d) : (dotI a b c d).natAbs < 2 ^ (m + n + 1) := bmono (badd (bmul h.1 k.1) (bmul h.2 k.2)) (by omega)
theorem cross_bits {a b c d : Int} {m n : Nat} (h : B2 m a b) (k : B2 n c d) : (crossT a b c d).natAbs < 2 ^ (m + n + 1) := bmono (bsub (bmul h.1 k.2) (bmul h.2 k.1)) (by omega)
theorem dec_i0 (x : Int) : decide (V.int x = V.int 0) = decide (x = 0) := by
  by_cases z : x = 0
  · rw [z]; rfl
  · rw [decide_eq_false z]
    exact decide_eq_false fun y => z (by injection y)
theorem dec_ii (x y : Int) : decide (V.int x = V.int y) = decide (x = y) := by
  by_cases z : x = y
  · rw [z]; simp
  · rw [decide_eq_false z]
    exact decide_eq_false fun y => z (by injection y)
theorem ifT {b : Bool} {p q : Prop} (h : b = true) (x : p) : if b = true then p else q := by rw [if_pos h]; exact x
theorem ifF {b : Bool} {p q : Prop} (h : b = false) (x : q) : if b = true then p else q := by rw [if_neg (by rw [h]; decide)]; exact x
theorem d0t {x : Int} (h : x = 0) : decide (V.int x = V.int 0) = true := by rw [dec_i0]; exact decide_eq_true h
theorem d0f {x : Int} (h : ¬ x = 0) : decide (V.int x = V.int 0) = false := by rw [dec_i0]; exact decide_eq_false h
section
variable {P : Program} {w : World} {K : PySem.W.Frag} {mg : Str → Option Value} {base : Heap} {D : PAd}
theorem sc_upright : FnScope ["above", "below"] ["above", "below"] (defScope S_upright) := ⟨rfl, rfl, rfl, by decide +kernel, rfl, by decide +kernel, by decide +kernel⟩
def sp_upright : Sp := fun vs H Q _ => ∃ (above below : Int) (b_above b_below : Nat), vs = [.int above, .int below] ∧ above.natAbs < 2 ^ b_above ∧ below.natAbs < 2 ^ b_below ∧ b_above + b_below ≤ 200000000 ∧ (below < 0 → ∀ H' p, Same H H' → H p = none → H' p = some (.tup [.int (-above), .int (-below)]) → Q (.ref p) H') ∧ (¬ below < 0 → ∀ H' p, Same H H' → H p = none → H' p = some (.tup [.int (above), .int (below)]) → Q (.ref p) H')
theorem ok_upright {f : Addr} {fd : FuncData} (F : Fn1 K mg "upright" S_upright ["above", "below"] f fd) : FnOk P w K mg base CX0 1 f fd ["above", "below"] sp_upright := by
  refine F.F.ok sc_upright (fun vs H Q E h => ?_) (fun cdv A outer s H vs Q E hr h => ?_)
  · obtain ⟨above, below, b_above, b_below, rfl, _⟩ := h
    rfl
  obtain ⟨above, below, b_above, b_below, rfl, hb_above, hb_below, hz, q⟩ := h
  obtain ⟨qm, qp⟩ := q
  refine ⟨_, (pss_cons (ps_if (pt_cmpR op_lt (pv 1) pe_int (nomark _)) (pss_one (ps_ret (pe_tup (pa_cons (pe_un un_neg (pv 0)) (pa_cons (pe_un un_neg (pv 1)) pa_nil))))) pss_nil) (pss_one (ps_ret (pe_tup (pa_cons (pv 0) (pa_cons (pv 1) pa_nil)))))), ?_⟩
  by_cases bn : below < 0
  · refine ⟨_, rfl, _, _, rfl, rfl, _, rfl, ifT (decide_eq_true bn) ⟨_, rfl, above, rfl, _, rfl, below, rfl, by show 2 ≤ sizeLine; decide, fun p hp => ?_⟩⟩
    exact qm bn _ p (same_new hp _) hp upd_same
  · refine ⟨_, rfl, _, _, rfl, rfl, _, rfl, ifF (decide_eq_false bn) ⟨_, rfl, _, rfl, by show 2 ≤ sizeLine; decide, fun p hp => ?_⟩⟩
    exact qp bn _ p (same_new hp _) hp upd_same
theorem sc_over : FnScope ["a", "b"] ["a", "b"] (defScope S_over) := ⟨rfl, rfl, rfl, by decide +kernel, rfl, by decide +kernel, by decide +kernel⟩
def sp_over : Sp := fun vs H Q _ => ∃ (v_a v_b : V) (a0 a1 b0 b1 : Int) (b_a b_b : Nat), vs = [v_a, v_b] ∧ Tw H v_a a0 a1 ∧ Tw H v_b b0 b1 ∧ B2 b_a a0 a1 ∧ B2 b_b b0 b1 ∧ b_a + b_b ≤ 100000000 ∧ (b0 = 0 → Q .non H) ∧ (a1 * b0 < 0 → ∀ H' p, Same H H' → H p = none → H' p = some (.tup [.int (-(a0 * b1)), .int (-(a1 * b0))]) → Q (.ref p) H') ∧ (¬ b0 = 0 → ¬ a1 * b0 < 0 → ∀ H' p, Same H H' → H p = none → H' p = some (.tup [.int (a0 * b1), .int (a1 * b0)]) → Q (.ref p) H')
theorem ok_over {f f_U : Addr} {fd d_U : FuncData} (U : Fn1 K mg "upright" S_upright ["above", "below"] f_U d_U) (F : Fn1 K mg "over" S_over ["a", "b"] f fd) : FnOk P w K mg base CX0 2 f fd ["a", "b"] sp_over := by
  refine F.F.ok sc_over (fun vs H Q E h => ?_) (fun cdv A outer s H vs Q E hr h => ?_)
  · obtain ⟨v_a, v_b, a0, a1, b0, b1, b_a, b_b, rfl, _⟩ := h
    rfl
  obtain ⟨v_a, v_b, a0, a1, b0, b1, b_a, b_b, rfl, ⟨a_a, rfl, h_a⟩, ⟨a_b, rfl, h_b⟩, hb_a, hb_b, hz, q⟩ := h
  obtain ⟨qn, qm, qp⟩ := q
  have hr1 : Room 1 _ := hr.mono (by decide)
  refine ⟨_, (pss_cons (ps_if (pt_cmpR op_eq (pe_ix ix_tup (pv 1) pe_int (fun _ _ => rfl)) pe_int (nomark _)) (pss_one (ps_ret pe_non)) pss_nil) (pss_one (ps_ret (pe_call (ok_upright U) hr1 rfl U.m U.F.kp U.b .nil pass0 (pa_cons (pe_op op_mulV (pe_ix ix_tup (pv 0) pe_int (fun _ _ => rfl)) (pe_ix ix_tup (pv 1) pe_int (fun _ _ => rfl))) (pa_cons (pe_op op_mulV (pe_ix ix_tup (pv 0) pe_int (fun _ _ => rfl)) (pe_ix ix_tup (pv 1) pe_int (fun _ _ => rfl))) pa_nil)))))), ?_⟩
  by_cases z : b0 = 0
  · exact ⟨_, rfl, a_b, _, 0, .int b0, rfl, rfl, SqT.of (h_b), atI_nat (j := 0) rfl, rfl, _, rfl, ifT (d0t z) (qn z)⟩
  · refine ⟨_, rfl, a_b, _, 0, .int b0, rfl, rfl, SqT.of (h_b), atI_nat (j := 0) rfl, rfl, _, rfl, ifF (d0f z) ?_⟩
    exact ⟨_, rfl, a_a, _, 0, .int a0, rfl, rfl, SqT.of (h_a), atI_nat (j := 0) rfl, _, rfl, a_b, _, 1, .int b1, rfl, rfl, SqT.of (h_b), atI_nat (j := 1) rfl, _, _, rfl, rfl, mulV hb_a.1 hb_b.2 (by omega), _, rfl, a_a, _, 1, .int a1, rfl, rfl, SqT.of (h_a), atI_nat (j := 1) rfl, _, rfl, a_b, _, 0, .int b0, rfl, rfl, SqT.of (h_b), atI_nat (j := 0) rfl, _, _, rfl, rfl, mulV hb_a.2 hb_b.1 (by omega), a0 * b1, a1 * b0, b_a + b_b, b_a + b_b, rfl, bmul hb_a.1 hb_b.2, bmul hb_a.2 hb_b.1, by omega, qm, qp z⟩
/-! ### ends -/
theorem rowA_get {r : SeamPoly.Row} {i : Nat} (h : i < r.length) : r[i]? = some (SeamPoly.at_ r i) := by
  unfold SeamPoly.at_
  rw [Nat.mod_eq_of_lt h, List.getD_eq_getElem?_getD, List.getElem?_eq_getElem h]
  rfl
theorem rowA_mod {r : SeamPoly.Row} (i : Nat) (h : 0 < r.length) : r[i % r.length]? = some (SeamPoly.at_ r i) := by
  have q := rowA_get (r := r) (i := i % r.length) (Nat.mod_lt _ h)
  rw [q]
  unfold SeamPoly.at_
  rw [Nat.mod_mod]
theorem row_is {ps : List SeamPattern.Piece} {ss : List Seam} {k : Nat} {p : SeamPattern.Piece} (h : ps[k]? = some p) : (⟨ps, ss⟩ : SeamPattern.Pattern).row k = p.row := by
  unfold SeamPattern.Pattern.row
  show (match ps[k]? with | some p => p.row | none => []) = _
  rw [h]
theorem edge_at {ps : List SeamPattern.Piece} {ss : List Seam} {e : Edge} (h : e.2 < ((⟨ps, ss⟩ : SeamPattern.Pattern).row e.1).length) : ∃ p, ps[e.1]? = some p ∧ e.2 < p.row.length := by
  cases hp : ps[e.1]? with
  | none =>
    unfold SeamPattern.Pattern.row at h
    simp only [hp] at h
    exact absurd h (by simp)
  | some p =>
    rw [row_is hp] at h
    exact ⟨p, rfl, h⟩
structure EndsT (K : PySem.W.Frag) (mg : Str → Option Value) (D : PAd) : Prop where
  C : PatC K mg D
  E : ∃ f d, Fn1 K mg "ends" S_ends ["pattern", "edge"] f d
  A : ∃ f d, Fn1 K mg "after" S_after ["row", "index"] f d
  len : mg "len" = none
def spEnds (D : PAd) : Sp := fun vs H Q _ => ∃ r pl sl vcs ps ss ve, ∃ e : Edge, vs = [.ref r, ve] ∧ PatS D.CT D.CP H r pl sl vcs ps ss ∧ EdAt H ve e ∧ e.2 < ((⟨ps, ss⟩ : SeamPattern.Pattern).row e.1).length ∧
  ∀ H' t va vb, Same H H' → H' t = some (.tup [va, vb]) → PtAt H' va (fromOf ⟨ps, ss⟩ e) → PtAt H' vb (toOf ⟨ps, ss⟩ e) → Q (.ref t) H'
theorem scEnds : FnScope ["pattern", "edge", "corners"] ["pattern", "edge"] (defScope S_ends) := ⟨rfl, rfl, rfl, by decide +kernel, rfl, by decide +kernel, by decide +kernel⟩
theorem ok_ends {f : Addr} {fd : FuncData} (T : EndsT K mg D) (F : Fn1 K mg "ends" S_ends ["pattern", "edge"] f fd) : FnOk P w K mg base CX0 2 f fd ["pattern", "edge"] (spEnds D) := by
  refine F.F.ok scEnds (fun vs H Q E h => ?_) (fun cdv A outer s H vs Q E hr h => ?_)
  · obtain ⟨r, pl, sl, vcs, ps, ss, ve, e, rfl, _⟩ := h
    rfl
  obtain ⟨r, pl, sl, vcs, ps, ss, ve, e, rfl, S, ⟨a, rfl, he⟩, hlt, k⟩ := h
  obtain ⟨fA, dA, FA⟩ := T.A
  have C := T.C
  refine ⟨_, pss_cons (ps_set (i := 2) scEnds.nd rfl (Or.inl rfl) (pe_fld (pe_ix ix_list (pe_fld (pv 0) rfl) (pe_ix ix_tup (pv 1) pe_int (fun _ _ => rfl)) (fun _ _ => rfl)) rfl))
    (pss_one (ps_ret (pe_tup (pa_cons (pe_ix ix_list (pv 2) (pe_ix ix_tup (pv 1) pe_int (fun _ _ => rfl)) (fun _ _ => rfl)) (pa_cons (pe_call (ok_after FA T.len) hr rfl FA.m FA.F.kp FA.b .nil pass0 (pa_cons (pv 2) (pa_cons (pe_ix ix_tup (pv 1) pe_int (fun _ _ => rfl)) pa_nil))) pa_nil))))), ?_⟩
  obtain ⟨dx, ei⟩ := S.ins
  obtain ⟨p, hp, hlt'⟩ := edge_at hlt
  obtain ⟨v, cl, gv, b, dx2, g, rfl, eb, hg, cvs, hcl, hrow⟩ := pat_at S hp
  have er := row_is (ss := ss) hp
  have l0 : 0 < p.row.length := by omega
  have lc : cvs.length = p.row.length := Paired.length hrow
  obtain ⟨va, ga, ta⟩ := paired_at hrow e.2 _ (rowA_get hlt')
  obtain ⟨vb, gb, tb⟩ := paired_at hrow ((e.2 + 1) % p.row.length) _ (rowA_mod (e.2 + 1) l0)
  rw [← lc] at gb
  refine ⟨_, rfl, r, D.CT, dx, _, _, rfl, ei, C.clT, C.nTp, rfl, _, rfl, a, _, 0, .int e.1, rfl, rfl, SqT.of he, atI_nat (j := 0) rfl, pl, _, _, .ref b, rfl, rfl, SqL.of S.pcs, atI_nat (j := e.1) gv, b, D.CP, dx2, _, _, rfl, eb, C.clP, C.nPc, rfl, ?_⟩
  refine ⟨_, rfl, _, rfl, a, _, 1, .int e.2, rfl, rfl, SqT.of he, atI_nat (j := 1) rfl, cl, _, _, va, rfl, rfl, SqL.of hcl, atI_nat (j := e.2) ga, ?_⟩
  refine ⟨_, rfl, _, rfl, a, _, 1, .int e.2, rfl, rfl, SqT.of he, atI_nat (j := 1) rfl, cl, cvs, e.2, vb, rfl, SqL.of hcl, by omega, gb, by show 2 ≤ sizeLine; decide, fun t ht => ?_⟩
  have s1 := same_new ht (.tup [va, vb])
  have f1 : fromOf ⟨ps, ss⟩ e = SeamPoly.at_ p.row e.2 := by show SeamPoly.at_ ((⟨ps, ss⟩ : SeamPattern.Pattern).row e.1) e.2 = _; rw [er]
  have f2 : toOf ⟨ps, ss⟩ e = SeamPoly.at_ p.row (e.2 + 1) := by show SeamPoly.at_ ((⟨ps, ss⟩ : SeamPattern.Pattern).row e.1) (e.2 + 1) = _; rw [er]
  exact k _ t va vb s1 upd_same (by rw [f1]; exact ta.same s1) (by rw [f2]; exact tb.same s1)
/-! ### part_of_way -/
theorem nm_bits {q : Rat} (h : fits q = true) : q.num.natAbs < 2 ^ 63 ∧ (q.den : Int).natAbs < 2 ^ 63 := by
  have b := fits_bits h
  exact ⟨b.1, by rw [Int.natAbs_natCast]; exact b.2⟩
theorem eqv_num (p q : Rat) : PyData.eqv (.tuple [.int p.num, .int p.den]) (.tuple [.int q.num, .int q.den]) = decide (p = q) := by
  have r : ∀ {a b : Rat}, (a.num = b.num ∧ (a.den : Int) = b.den) ↔ a = b := fun {a b} => ⟨fun ⟨x, y⟩ => Rat.ext x (by exact_mod_cast y), fun z => by rw [z]; exact ⟨rfl, rfl⟩⟩
  rw [Bool.eq_iff_iff, decide_eq_true_eq]
  simp only [PyData.eqv, PyData.eqvAll, Bool.and_eq_true, beq_iff_eq, and_true]
  exact r
def spPart : Sp := fun vs H Q _ => ∃ (va vb vp : V) (a b p : Point) (t : Rat), vs = [va, vb, vp] ∧ PtAt H va a ∧ PtAt H vb b ∧ PtAt H vp p ∧ fitsP a = true ∧ fitsP b = true ∧ fitsP p = true ∧ a ≠ b ∧ p = SeamNum.part a b t ∧
  ∀ H' q n d, Same H H' → H' q = some (two n d) → Rep t n d → n.natAbs < 2 ^ 300 → d.natAbs < 2 ^ 300 → Q (.ref q) H'
theorem scPart : FnScope ["a", "b", "point", "along"] ["a", "b", "point"] (defScope S_part_of_way) := ⟨rfl, rfl, rfl, by decide +kernel, rfl, by decide +kernel, by decide +kernel⟩
theorem part_one {a b p t : Rat} (h : b - a ≠ 0) (e : p = a + t * (b - a)) : t = (p - a) / (b - a) := by
  have : p - a = t * (b - a) := by rw [e]; grind
  rw [this]
  rw [Rat.div_def, Rat.mul_assoc, Rat.mul_inv_cancel _ h, Rat.mul_one]
structure PartT (K : PySem.W.Frag) (mg : Str → Option Value) : Prop where
  M : ∃ f d, Fn1 K mg "minus" S_minus ["a", "b"] f d
  O : ∃ f d, Fn1 K mg "over" S_over ["a", "b"] f d
  U : ∃ f d, Fn1 K mg "upright" S_upright ["above", "below"] f d
theorem ok_part (T : PartT K mg) {f : Addr} {fd : FuncData} (F : Fn1 K mg "part_of_way" S_part_of_way ["a", "b", "point"] f fd) : FnOk P w K mg base CX0 3 f fd ["a", "b", "point"] spPart := by
  refine F.F.ok scPart (fun vs H Q E h => ?_) (fun cdv A outer s H vs Q E hr h => ?_)
  · obtain ⟨va, vb, vp, a, b, p, t, rfl, _⟩ := h
    rfl
  obtain ⟨va, vb, vp, a, b, p, t, rfl, ⟨aa, ax, ay, rfl, ha, hax, hay⟩, ⟨ab, bx, bY, rfl, hb, hbx, hby⟩, ⟨ap, px, py, rfl, hp, hpx, hpy⟩, fa, fb, fp, ne, ep, k⟩ := h
  have hr1 : Room 1 _ := hr.mono (by decide)
  obtain ⟨_, _, FM⟩ := T.M
  obtain ⟨_, _, FO⟩ := T.O
  obtain ⟨_, _, FU⟩ := T.U
  refine ⟨_, pss_cons (ps_set (i := 3) scPart.nd rfl (Or.inl rfl) (pe_ifExp (pt_cmpR (op_neD hr.units) (pe_ix ix_tup (pv 0) pe_int (fun _ _ => rfl)) (pe_ix ix_tup (pv 1) pe_int (fun _ _ => rfl)) (nomark _)) pe_int pe_int))
    (pss_one (ps_ret (pe_call (ok_over FU FO) hr rfl FO.m FO.F.kp FO.b .nil pass0 (pa_cons (pe_call (ok_minus FM) hr1 rfl FM.m FM.F.kp FM.b .nil pass0 (pa_cons (pe_ix ix_tup (pv 2) (pv 3) (fun _ _ => rfl)) (pa_cons (pe_ix ix_tup (pv 0) (pv 3) (fun _ _ => rfl)) pa_nil))) (pa_cons (pe_call (ok_minus FM) hr1 rfl FM.m FM.F.kp FM.b .nil pass0 (pa_cons (pe_ix ix_tup (pv 1) (pv 3) (fun _ _ => rfl)) (pa_cons (pe_ix ix_tup (pv 0) (pv 3) (fun _ _ => rfl)) pa_nil))) pa_nil))))), ?_⟩
  have fa' : (fits a.1 && fits a.2) = true := fa
  have fb' : (fits b.1 && fits b.2) = true := fb
  have fp' : (fits p.1 && fits p.2) = true := fp
  rw [Bool.and_eq_true] at fa' fb' fp'
  have e1 : p.1 = a.1 + t * (b.1 - a.1) := congrArg Prod.fst ep
  have e2 : p.2 = a.2 + t * (b.2 - a.2) := congrArg Prod.snd ep
  refine ⟨_, rfl, aa, _, 0, ax, rfl, rfl, SqT.of ha, atI_nat (j := 0) rfl, _, rfl, ab, _, 0, bx, rfl, rfl, SqT.of hb, atI_nat (j := 0) rfl, _, _, dp_num hax, dp_num hbx, rfl, rfl, _, rfl, ?_⟩
  rw [eqv_num]
  -- what follows, at the coordinate
  have go : ∀ (j : Nat) (ux uy uz : V) (x y z : Rat), [ax, ay][j]? = some ux → [bx, bY][j]? = some uy → [px, py][j]? = some uz → Nm H ux x → Nm H uy y → Nm H uz z → fits x = true → fits y = true → fits z = true → y - x ≠ 0 → z = x + t * (y - x) →
      tRet (tCall sp_over [] E0 (tCons (tCall (spTwoF K fun n d m e => (n * e - m * d, d * e)) [] E0 (tCons (tOp (rIxT K) (tVar 2) (tVar 3)) (tCons (tOp (rIxT K) (tVar 0) (tVar 3)) tNil))) (tCons (tCall (spTwoF K fun n d m e => (n * e - m * d, d * e)) [] E0 (tCons (tOp (rIxT K) (tVar 1) (tVar 3)) (tCons (tOp (rIxT K) (tVar 0) (tVar 3)) tNil))) tNil))) { nx := fun _ H' => Q .non H', rt := Q } [some (.ref aa), some (.ref ab), some (.ref ap), some (.int (j : Nat))] H := by
    intro j ux uy uz x y z gx gy gz nx ny nz fx fy fz hne he
    obtain ⟨x1, x2⟩ := nm_bits fx
    obtain ⟨y1, y2⟩ := nm_bits fy
    obtain ⟨z1, z2⟩ := nm_bits fz
    refine ⟨_, rfl, _, rfl, ap, _, _, uz, rfl, rfl, SqT.of hp, atI_nat (j := j) gz, _, rfl, _, rfl, aa, _, _, ux, rfl, rfl, SqT.of ha, atI_nat (j := j) gx, uz, ux, _, _, _, _, 63, 63, rfl, nz, nx, z1, z2, x1, x2, by decide, fun t1 ht1 => ?_⟩
    have s1 := same_new ht1 (two (z.num * x.den - x.num * z.den) (z.den * x.den))
    have h1 : (upd H t1 (two (z.num * x.den - x.num * z.den) (z.den * x.den))) t1 = some (two (z.num * x.den - x.num * z.den) (z.den * x.den)) := upd_same
    generalize upd H t1 (two (z.num * x.den - x.num * z.den) (z.den * x.den)) = H1 at s1 h1 ⊢
    refine ⟨_, rfl, _, rfl, ab, _, _, uy, rfl, rfl, SqT.of (s1 _ _ hb), atI_nat (j := j) gy, _, rfl, _, rfl, aa, _, _, ux, rfl, rfl, SqT.of (s1 _ _ ha), atI_nat (j := j) gx, uy, ux, _, _, _, _, 63, 63, rfl, Tw.same ny s1, Tw.same nx s1, y1, y2, x1, x2, by decide, fun t2 ht2 => ?_⟩
    have s2 := same_new ht2 (two (y.num * x.den - x.num * y.den) (y.den * x.den))
    have h2 : (upd H1 t2 (two (y.num * x.den - x.num * y.den) (y.den * x.den))) t2 = some (two (y.num * x.den - x.num * y.den) (y.den * x.den)) := upd_same
    generalize upd H1 t2 (two (y.num * x.den - x.num * y.den) (y.den * x.den)) = H2 at s2 h2 ⊢
    have r1 := (Rep.of z).sub (Rep.of x)
    have r2 := (Rep.of y).sub (Rep.of x)
    have b1 : B2 128 (z.num * x.den - x.num * z.den) (z.den * x.den) := ⟨bmono (bsub (bmul z1 x2) (bmul x1 z2)) (by decide), bmono (bmul z2 x2) (by decide)⟩
    have b2 : B2 128 (y.num * x.den - x.num * y.den) (y.den * x.den) := ⟨bmono (bsub (bmul y1 x2) (bmul x1 y2)) (by decide), bmono (bmul y2 x2) (by decide)⟩
    have et := part_one hne he
    have n0 : ¬ (y.num * x.den - x.num * y.den) = 0 := fun q => hne (r2.zero_iff.mpr q)
    have d1 := r1.1
    generalize z.num * x.den - x.num * z.den = N1 at *
    generalize (z.den : Int) * x.den = D1 at *
    generalize y.num * x.den - x.num * y.den = N2 at *
    generalize (y.den : Int) * x.den = D2 at *
    refine ⟨_, _, N1, D1, N2, D2, 128, 128, rfl, (Tw.of h1).same s2, Tw.of h2, b1, b2, by decide, fun q => absurd q n0, fun neg H3 q s3 hq h3 => ?_, fun _ pos H3 q s3 hq h3 => ?_⟩
    · have hm : N2 < 0 := by
        rcases Int.lt_trichotomy N2 0 with z | z | z
        · exact z
        · exact absurd z n0
        · have := Int.mul_pos d1 z; omega
      have rp := r1.div_neg r2 hm
      rw [← et] at rp
      have en : N1 * -D2 = -(N1 * D2) := Int.mul_neg _ _
      have ed : D1 * -N2 = -(D1 * N2) := Int.mul_neg _ _
      rw [en, ed] at rp
      refine k H3 q _ _ ((s1.trans s2).trans s3) h3 rp ?_ ?_
      · rw [Int.natAbs_neg]; exact bmono (bmul b1.1 b2.2) (by decide)
      · rw [Int.natAbs_neg]; exact bmono (bmul b1.2 b2.1) (by decide)
    · have hm : 0 < N2 := by
        rcases Int.lt_trichotomy N2 0 with z | z | z
        · have := Int.mul_neg_of_pos_of_neg d1 z; omega
        · exact absurd z n0
        · exact z
      have rp := r1.div_pos r2 hm
      rw [← et] at rp
      exact k H3 q _ _ ((s1.trans s2).trans s3) h3 rp (bmono (bmul b1.1 b2.2) (by decide)) (bmono (bmul b1.2 b2.1) (by decide))
  by_cases h1 : a.1 = b.1
  · rw [decide_eq_true h1]
    have h2 : b.2 - a.2 ≠ 0 := fun z => ne (Prod.ext h1 (by grind))
    exact iteF (go 1 ay bY py a.2 b.2 p.2 rfl rfl rfl hay hby hpy fa'.2 fb'.2 fp'.2 h2 e2)
  · rw [decide_eq_false h1]
    have h2 : b.1 - a.1 ≠ 0 := fun z => h1 (by grind)
    exact iteT (go 0 ax bx px a.1 b.1 p.1 rfl rfl rfl hax hbx hpx fa'.1 fb'.1 fp'.1 h2 e1)
end
end SDP
set_option Elab.async false
set_option linter.all false
set_option maxHeartbeats 1000000
/-! # Where a point lies, by whole numbers -/
namespace SR
open SeamNum SeamPoly

theorem meet_spot (a b p : Point) : SeamNum.meet a b p p = on a b p := by
  unfold SeamNum.meet
  have s : side p p a * side p p b = 0 := by rw [side_aa]; grind
  have s' : ¬ (side p p a * side p p b < 0) := by rw [s]; grind
  rw [decide_eq_false s', Bool.and_false, Bool.or_false]
  cases h : on a b p with
  | true => rfl
  | false =>
    rw [Bool.false_or, Bool.false_or]
    have q : ∀ z, on p p z = true → z = p := fun z hz => by
      unfold on at hz
      rw [if_pos rfl] at hz
      exact beq_iff_eq.mp hz
    cases h1 : on p p a with
    | true => rw [q a h1, on_start] at h; cases h
    | false =>
      cases h2 : on p p b with
      | true => rw [q b h2, on_end] at h; cases h
      | false => rfl
/-- an edge that passes on the right -/
def passB (C F S : IP) : Bool := (decide (C.2 ≤ S.2) && decide (S.2 < F.2)) && decide (sideI C F S > 0) || ((decide (F.2 ≤ S.2) && decide (S.2 < C.2)) && decide (sideI C F S < 0))
def roundTo (W : WRow) (S : IP) : Nat → Bool
  | 0 => false
  | n + 1 => if passB (wAt W n) (wAt W (n + 1)) S = true then !roundTo W S n else roundTo W S n
def rimAt (W : WRow) (S : IP) (i : Nat) : Bool := hitB (wAt W i) (wAt W (i + 1)) S S
def rims (W : WRow) (S : IP) (n : Nat) : List Nat := (List.range n).filter (rimAt W S)
def whereI (W : WRow) (S : IP) : Int := if rims W S W.length ≠ [] then 1 else if roundTo W S W.length = true then 2 else 0
def whereR (r : Row) (p : Point) : Int := if onRim r p = true then 1 else if within r p = true then 2 else 0
section
variable {D : Int} {W : WRow} {r : Row} {S : IP} {p : Point}
theorem sc_side_pos (hD : 0 < D) {A B C : IP} {a b c : Point} (hA : Sc D A a) (hB : Sc D B b) (hC : Sc D C c) : (0 < sideI A B C ↔ 0 < side a b c) ∧ (sideI A B C < 0 ↔ side a b c < 0) := by
  have e := sc_side hA hB hC
  have h := cast_pos hD
  have h2 := Rat.mul_pos h h
  have c0 : (0 : Int) < sideI A B C ↔ (0 : Rat) < (sideI A B C : Rat) := by
    have : ((0 : Int) : Rat) < (sideI A B C : Rat) ↔ 0 < sideI A B C := Rat.intCast_lt_intCast
    exact this.symm
  have c1 : sideI A B C < (0 : Int) ↔ (sideI A B C : Rat) < (0 : Rat) := by
    have : (sideI A B C : Rat) < ((0 : Int) : Rat) ↔ sideI A B C < 0 := Rat.intCast_lt_intCast
    exact this.symm
  rw [c0, c1, e]
  exact ⟨pos_times h2, neg_times h2⟩
theorem sc_le {z w : Int} {x y : Rat} (hD : 0 < D) (hz : (z : Rat) = D * x) (hw : (w : Rat) = D * y) : z ≤ w ↔ x ≤ y := by
  have := sc_lt hD hw hz
  constructor
  · intro k
    have n : ¬ y < x := fun q => by have := this.mpr q; omega
    exact Rat.not_lt.mp n
  · intro k
    have n : ¬ w < z := fun q => by
      have := this.mp q
      grind
    omega
theorem passB_is (hD : 0 < D) {C F : IP} {c f : Point} (hC : Sc D C c) (hF : Sc D F f) (hS : Sc D S p) : passB C F S = true ↔ passes p (c, f) ≠ 0 := by
  obtain ⟨s1, s2⟩ := sc_side_pos hD hC hF hS
  have l1 := sc_le hD hC.y hS.y
  have l2 := sc_lt hD hS.y hF.y
  have l3 := sc_le hD hF.y hS.y
  have l4 := sc_lt hD hS.y hC.y
  unfold passB passes
  simp only [Bool.or_eq_true, Bool.and_eq_true, decide_eq_true_eq, gt_iff_lt, l1, l2, l3, l4, s1, s2]
  by_cases h1 : c.2 ≤ p.2 ∧ p.2 < f.2 ∧ 0 < side c f p
  · rw [if_pos h1]
    exact ⟨fun _ => by decide, fun _ => Or.inl ⟨⟨h1.1, h1.2.1⟩, h1.2.2⟩⟩
  · rw [if_neg h1]
    by_cases h2 : f.2 ≤ p.2 ∧ p.2 < c.2 ∧ side c f p < 0
    · rw [if_pos h2]
      exact ⟨fun _ => by decide, fun _ => Or.inr ⟨⟨h2.1, h2.2.1⟩, h2.2.2⟩⟩
    · rw [if_neg h2]
      constructor
      · rintro (⟨⟨a, b⟩, c⟩ | ⟨⟨a, b⟩, c⟩)
        · exact absurd ⟨a, b, c⟩ h1
        · exact absurd ⟨a, b, c⟩ h2
      · intro z
        exact absurd rfl z
theorem roundTo_is (h : ScR D W r) (h0 : 0 < r.length) (hS : Sc D S p) : ∀ n, roundTo W S n = decide (sumTo n (fun k => if passes p (at_ r k, at_ r (k + 1)) = 0 then 0 else 1) % 2 = 1)
  | 0 => by unfold roundTo sumTo; decide
  | n + 1 => by
    have ih := roundTo_is h h0 hS n
    have q := passB_is h.pos (h.wAt h0 n) (h.wAt h0 (n + 1)) hS
    unfold roundTo
    simp only [sumTo]
    have gen : ∀ z : Int, decide ((z + 1) % 2 = 1) = !decide (z % 2 = 1) := fun z => by
      have : (z + 1) % 2 = 1 ↔ ¬ (z % 2 = 1) := by omega
      simp [this]
    by_cases y : passes p (at_ r n, at_ r (n + 1)) = 0
    · rw [if_neg (fun t => (q.mp t) y), ih]
      simp only [if_pos y, Int.add_zero]
    · rw [if_pos (q.mpr y), ih]
      simp only [if_neg y, gen]
theorem rimAt_is (h : ScR D W r) (h0 : 0 < r.length) (hS : Sc D S p) (i : Nat) : rimAt W S i = on (at_ r i) (at_ r (i + 1)) p := by
  unfold rimAt
  rw [hitB_is h.pos (h.wAt h0 i) (h.wAt h0 (i + 1)) hS hS, meet_spot]
theorem rims_is (h : ScR D W r) (h0 : 0 < r.length) (hS : Sc D S p) (n : Nat) : rims W S n = (List.range n).filter fun i => on (at_ r i) (at_ r (i + 1)) p := by
  unfold rims
  congr 1
  funext i
  exact rimAt_is h h0 hS i
theorem onRim_is (r : Row) (p : Point) : onRim r p = true ↔ (List.range r.length).filter (fun i => on (at_ r i) (at_ r (i + 1)) p) ≠ [] := by
  unfold onRim edges
  rw [List.any_map, List.any_eq_true]
  constructor
  · rintro ⟨i, hi, ho⟩ z
    have : i ∈ (List.range r.length).filter (fun i => on (at_ r i) (at_ r (i + 1)) p) := List.mem_filter.mpr ⟨hi, ho⟩
    rw [z] at this
    cases this
  · intro z
    obtain ⟨i, hi⟩ := List.exists_mem_of_ne_nil _ z
    obtain ⟨h1, h2⟩ := List.mem_filter.mp hi
    exact ⟨i, h1, h2⟩
theorem onRim_ex (r : Row) (p : Point) : onRim r p = true ↔ ∃ i, i < r.length ∧ on (at_ r i) (at_ r (i + 1)) p = true := by
  unfold onRim edges
  rw [List.any_map, List.any_eq_true]
  constructor
  · rintro ⟨i, hi, ho⟩
    exact ⟨i, List.mem_range.mp hi, ho⟩
  · rintro ⟨i, hi, ho⟩
    exact ⟨i, List.mem_range.mpr hi, ho⟩
/-- **where a point lies** -/
theorem where_is (h : ScR D W r) (hr : RowFine r) (hS : Sc D S p) : whereI W S = whereR r p := by
  have h0 : 0 < r.length := by have := hr.three; omega
  unfold whereI whereR
  rw [h.len, rims_is h h0 hS]
  have e1 := onRim_is r p
  by_cases z : onRim r p = true
  · rw [if_pos (e1.mp z), if_pos z]
  · rw [if_neg (fun t => z (e1.mpr t)), if_neg z]
    have e2 : roundTo W S r.length = true ↔ within r p = true := by
      rw [roundTo_is h h0 hS, decide_eq_true_eq]
      unfold within
      rw [Bool.not_eq_true] at z
      rw [z]
      have := winds_odd hr p
      unfold crossings at this
      rw [← this]
      simp
    by_cases y : within r p = true
    · rw [if_pos (e2.mpr y), if_pos y]
    · rw [if_neg (fun t => y (e2.mp t)), if_neg y]
theorem whereR_out (r : Row) (p : Point) : whereR r p = 0 ↔ holds r p = false := by
  unfold whereR holds within
  cases onRim r p <;> cases h : (winds r p != 0) <;> simp
end
end SR
set_option Elab.async false
set_option linter.all false
set_option maxRecDepth 100000
set_option maxHeartbeats 4000000
set_option exponentiation.threshold 100000
/-! # Where a point lies -/
namespace SDP
open PySem PySem.Spec PyProof.Rows L2 SDX SD TL SR
open SeamNum (Bytes fits FINE Point fitsP)
section
variable {P : Program} {w : World} {K : PySem.W.Frag} {mg : Str → Option Value} {base : Heap}
theorem ifAndN {b : Bool} {A : Prop} {i : Nat} {σ : L2.St} {H : Hp} {Q : L2.St → Hp → Prop} (c : Bool) (k : gName i (.bl (b && c)) σ H Q) (t : gName i (.bl c) σ H Q → A) : if b = true then A else gName i (.bl false) σ H Q := by
  cases b with
  | false => exact iteF k
  | true => exact iteT (t (by rw [Bool.true_and] at k; exact k))
/-! ### edges_through -/
def spThru : Sp := fun vs H Q _ => ∃ (l : Addr) (W : WRow) (v : V) (S : IP), vs = [.ref l, v] ∧ WL H l W ∧ Tw H v S.1 S.2 ∧ (∀ P ∈ W, WB P) ∧ WB S ∧ 0 < W.length ∧ W.length ≤ 16 ∧ ∀ H' p, Same H H' → H p = none → H' p = some (.lst ((rims W S W.length).map fun (i : Nat) => V.int i)) → Q (.ref p) H'
theorem scThru : FnScope ["whole", "spot", "index", "corner"] ["whole", "spot"] (defScope S_edges_through) := ⟨rfl, rfl, rfl, by decide +kernel, rfl, by decide +kernel, by decide +kernel⟩
theorem rims_succ (W : WRow) (S : IP) (n : Nat) : rims W S (n + 1) = rims W S n ++ (if rimAt W S n = true then [n] else []) := by
  unfold rims
  rw [List.range_succ, List.filter_append]
  congr 1
  cases h : rimAt W S n with
  | true => rw [List.filter_cons_of_pos h]; rfl
  | false => rw [List.filter_cons_of_neg (by rw [h]; decide)]; rfl
theorem rims_le (W : WRow) (S : IP) (n : Nat) : (rims W S n).length ≤ n := by
  unfold rims
  have := List.length_filter_le (rimAt W S) (List.range n)
  rw [List.length_range] at this
  exact this
theorem ok_thru {f fS fA fH fF : Addr} {fd dS dA dH dF : FuncData} (F : Fn1 K mg "edges_through" S_edges_through ["whole", "spot"] f fd) (T : HitT K mg fS fA fH dS dA dH) (FA : Fn1 K mg "after" S_after ["row", "index"] fF dF) (ml : mg "len" = none) (me : mg "enumerate" = none) : FnOk P w K mg base CX0 3 f fd ["whole", "spot"] spThru := by
  refine F.F.ok scThru (fun vs H Q E h => ?_) (fun cdv A outer s H vs Q E hr h => ?_)
  · obtain ⟨l, W, v, S, rfl, _⟩ := h
    rfl
  obtain ⟨l, W, v, S, rfl, ⟨vs, hl, hp⟩, tS, hw, wS, n0, h16, k⟩ := h
  have okH := ok_hit (P := P) (w := w) (base := base) T
  have hr1 : Room 1 _ := hr.mono (by decide)
  refine ⟨_, pss_one (ps_ret (pe_lc (own := [("index", 2), ("corner", 3)]) (g := gTup K 2 (gCons (gName 2) (gCons (gName 3) gNil)))
      (tt := tB (tCall spHit [] E0 (tCons (tVar 3) (tCons (tCall (spAfter K) [] E0 (tCons (tVar 0) (tCons (tVar 2) tNil))) (tCons (tVar 1) (tCons (tVar 1) tNil)))))) (te := tVar 2) rfl scThru.nd
      (pi_enum rfl me (pa_cons (pv 0) pa_nil)) (blkOk_by (N := ["whole", "spot", "index", "corner"]) (sc := defScope S_edges_through) (by decide +kernel))
      (fun _ _ _ _ _ => pg_tup rfl (pgs_cons (pg_name (i := 2) scThru.nd rfl (Or.inl rfl)) (pgs_cons (pg_name (i := 3) scThru.nd rfl (Or.inl rfl)) pgs_nil)))
      (fun _ _ _ _ _ => pts_one (pt_val (pe_call okH hr rfl T.H.m T.H.F.kp T.H.b .nil pass0 (pa_cons (pv 3) (pa_cons (pe_call (ok_after FA ml) hr1 rfl FA.m FA.F.kp FA.b .nil pass0 (pa_cons (pv 0) (pa_cons (pv 2) pa_nil))) (pa_cons (pv 1) (pa_cons (pv 1) pa_nil)))))))
      (fun _ _ _ _ _ => pv 2))), ?_⟩
  have elen : vs.length = W.length := Paired.length hp
  refine ⟨_, rfl, l, vs, rfl, SqL.of hl, fun D2 hD2 => ?_⟩
  refine lc_it walk_enum (fun i H' => Same H H' ∧ H' D2 = some (.lst ((rims W S i).map fun (i : Nat) => V.int i))) ⟨same_new hD2 _, upd_same⟩ (fun i H' _ ⟨s1, _⟩ => SqL.of (s1 _ _ hl)) (fun i x0 H1 H2 hi ⟨s1, s2⟩ hy => ?_) (fun H' ⟨s1, s2⟩ => ?_)
  · obtain ⟨Tp, x1, y1, rfl, hTp, rfl, e1, e2⟩ := hy
    injection e1 with e1
    subst e1
    have hiW : i < W.length := by omega
    obtain ⟨v1, g1, t1⟩ := paired_at hp i _ (wAt_get hiW)
    have e2 : vs[i]? = some y1 := e2
    rw [g1] at e2
    obtain rfl : v1 = y1 := Option.some.inj e2
    obtain ⟨v2, g2, t2⟩ := paired_at hp ((i + 1) % W.length) _ (wAt_mod (i + 1) n0)
    rw [← elen] at g2
    have s3 : Same H (upd H1 Tp (.tup [.int (i : Nat), v1])) := s1.trans (same_new hTp _)
    have s4 : (upd H1 Tp (.tup [.int (i : Nat), v1])) D2 = some (.lst ((rims W S i).map fun (i : Nat) => V.int i)) := by
      rw [upd_ne (ne_of_none s2 hTp)]
      exact s2
    refine ⟨Tp, _, rfl, SqT.of upd_same, rfl, _, _, rfl, _, _, rfl, rfl, ?_⟩
    generalize upd H1 Tp (.tup [.int (i : Nat), v1]) = H2 at s3 s4 ⊢
    refine ⟨rfl, _, rfl, _, rfl, _, rfl, l, vs, i, v2, rfl, SqL.of (s3 _ _ hl), by omega, g2, _, rfl, _, rfl, ?_⟩
    refine ⟨_, _, _, _, wAt W i, wAt W (i + 1), S, S, rfl, t1.same s3, t2.same s3, tS.same s3, tS.same s3, hw _ (wAt_mem i n0), hw _ (wAt_mem (i + 1) n0), wS, wS, _, rfl, ?_⟩
    have nx := rims_succ W S i
    have lrm := rims_le W S i
    have er : rimAt W S i = hitB (wAt W i) (wAt W (i + 1)) S S := rfl
    cases hb : hitB (wAt W i) (wAt W (i + 1)) S S with
    | false =>
      rw [er, hb] at nx
      refine iteF ⟨s3, ?_⟩
      rw [nx, if_neg (by decide), List.append_nil]
      exact s4
    | true =>
      rw [er, hb] at nx
      refine iteT ⟨_, rfl, _, s4, by rw [List.length_map, sizeLine_eq]; omega, fun b o hb' => ?_, ?_⟩
      · rw [upd_ne (ne_of_none hb' hD2)]
        exact s3 b o hb'
      · rw [upd_same, nx, if_pos rfl, List.map_append]
        rfl
  · rw [elen] at s2
    exact k H' D2 s1 hD2 s2
/-! ### goes_round -/
theorem eq9 {x y : Bool} {a b o3 o4 o5 o6 o7 o8 : Option V} (h : x = y) : [a, b, some (V.bl y), o3, o4, o5, o6, o7, o8] = [a, b, some (V.bl x), o3, o4, o5, o6, o7, o8] := by rw [h]
def spRound : Sp := fun vs H Q _ => ∃ (l : Addr) (W : WRow) (v : V) (S : IP), vs = [.ref l, v] ∧ WL H l W ∧ Tw H v S.1 S.2 ∧ (∀ P ∈ W, WB P) ∧ WB S ∧ 0 < W.length ∧ W.length ≤ 16 ∧ ∀ H', Same H H' → Q (.bl (roundTo W S W.length)) H'
theorem scRound : FnScope ["whole", "spot", "crossed", "index", "corner", "following", "turned", "upward", "downward"] ["whole", "spot"] (defScope S_goes_round) := ⟨rfl, rfl, rfl, by decide +kernel, rfl, by decide +kernel, by decide +kernel⟩
theorem ok_round {f fS fF : Addr} {fd dS dF : FuncData} (F : Fn1 K mg "goes_round" S_goes_round ["whole", "spot"] f fd) (FS : Fn1 K mg "side" S_side ["a", "b", "c"] fS dS) (FA : Fn1 K mg "after" S_after ["row", "index"] fF dF) (ml : mg "len" = none) (me : mg "enumerate" = none) : FnOk P w K mg base CX0 2 f fd ["whole", "spot"] spRound := by
  refine F.F.ok scRound (fun vs H Q E h => ?_) (fun cdv A outer s H vs Q E hr h => ?_)
  · obtain ⟨l, W, v, S, rfl, _⟩ := h
    rfl
  obtain ⟨l, W, v, S, rfl, ⟨vs, hl, hp⟩, tS, hw, wS, n0, h16, k⟩ := h
  have okS := ok_side (P := P) (w := w) (base := base) FS
  have hr1 : Room 1 _ := hr.mono (by decide)
  refine ⟨_, pss_cons (ps_set (i := 2) scRound.nd rfl (Or.inl rfl) pe_bl)
    (pss_cons (ps_for PassesOwn.never rfl (pi_enum rfl me (pa_cons (pv 0) pa_nil)) (pg_tup rfl (pgs_cons (pg_name (i := 3) scRound.nd rfl (Or.inl rfl)) (pgs_cons (pg_name (i := 4) scRound.nd rfl (Or.inl rfl)) pgs_nil)))
      (pss_cons (ps_set (i := 5) scRound.nd rfl (Or.inl rfl) (pe_call (ok_after FA ml) hr1 rfl FA.m FA.F.kp FA.b .nil pass0 (pa_cons (pv 0) (pa_cons (pv 3) pa_nil))))
      (pss_cons (ps_set (i := 6) scRound.nd rfl (Or.inl rfl) (pe_call okS hr1 rfl FS.m FS.F.kp FS.b .nil pass0 (pa_cons (pv 4) (pa_cons (pv 5) (pa_cons (pv 1) pa_nil)))))
      (pss_cons (ps_set (i := 7) scRound.nd rfl (Or.inl rfl) (pe_chain op_le op_lt (pe_ix ix_tup (pv 4) pe_int (fun _ _ => rfl)) (pe_ix ix_tup (pv 1) pe_int (fun _ _ => rfl)) (pe_ix ix_tup (pv 5) pe_int (fun _ _ => rfl))))
      (pss_cons (ps_set (i := 8) scRound.nd rfl (Or.inl rfl) (pe_chain op_le op_lt (pe_ix ix_tup (pv 5) pe_int (fun _ _ => rfl)) (pe_ix ix_tup (pv 1) pe_int (fun _ _ => rfl)) (pe_ix ix_tup (pv 4) pe_int (fun _ _ => rfl))))
      (pss_one (ps_if (PW.pt (pw_or (PW.pt (pw_and (pt_val (pv 7)) (pw_and1 (pt_cmpR op_gt (pv 6) pe_int (nomark _))))) (pw_or1 (PW.pt (pw_and (pt_val (pv 8)) (pw_and1 (pt_cmpR op_lt (pv 6) pe_int (nomark _)))))))) (pss_one (ps_set (i := 2) scRound.nd rfl (Or.inl rfl) (pe_not (pv 2)))) pss_nil)))))))
    (pss_one (ps_ret (pv 2)))), ?_⟩
  have elen : vs.length = W.length := Paired.length hp
  refine ⟨_, rfl, l, vs, rfl, SqL.of hl, ?_⟩
  refine for_it walk_enum (fun i σ H' => Same H H' ∧ ∃ o3 o4 o5 o6 o7 o8, σ = [some (.ref l), some v, some (.bl (roundTo W S i)), o3, o4, o5, o6, o7, o8]) ⟨Same.refl _, none, none, none, none, none, none, rfl⟩ (fun i σ H' _ ⟨s1, _⟩ => SqL.of (s1 _ _ hl)) (fun i x0 σ H1 H2 hi ⟨s1, o3, o4, o5, o6, o7, o8, es⟩ hy => ?_) (fun σ H' ⟨s1, o3, o4, o5, o6, o7, o8, es⟩ => ?_)
  · subst es
    obtain ⟨Tp, x1, y1, rfl, hTp, rfl, e1, e2⟩ := hy
    injection e1 with e1
    subst e1
    have hiW : i < W.length := by omega
    obtain ⟨v1, g1, t1⟩ := paired_at hp i _ (wAt_get hiW)
    have e2 : vs[i]? = some y1 := e2
    rw [g1] at e2
    obtain rfl : v1 = y1 := Option.some.inj e2
    obtain ⟨v2, g2, t2⟩ := paired_at hp ((i + 1) % W.length) _ (wAt_mod (i + 1) n0)
    rw [← elen] at g2
    have s2 : Same H (upd H1 Tp (.tup [.int (i : Nat), v1])) := s1.trans (same_new hTp _)
    refine ⟨Tp, _, rfl, SqT.of upd_same, rfl, _, _, rfl, _, _, rfl, rfl, ?_⟩
    generalize upd H1 Tp (.tup [.int (i : Nat), v1]) = H2 at s2 ⊢
    have wa := hw _ (wAt_mem i n0)
    have wb := hw _ (wAt_mem (i + 1) n0)
    refine ⟨_, rfl, _, rfl, l, vs, i, v2, rfl, SqL.of (s2 _ _ hl), by omega, g2, ?_⟩
    refine ⟨_, rfl, _, rfl, _, rfl, _, _, _, wAt W i, wAt W (i + 1), S, rfl, t1.same s2, t2.same s2, tS.same s2, wa, wb, wS, ?_⟩
    obtain ⟨a1, rfl, q1⟩ := t1.same s2
    obtain ⟨a2, rfl, q2⟩ := t2.same s2
    obtain ⟨a3, rfl, q3⟩ := tS.same s2
    have pb : passB (wAt W i) (wAt W (i + 1)) S = ((decide ((wAt W i).2 ≤ S.2) && decide (S.2 < (wAt W (i + 1)).2)) && decide (sideI (wAt W i) (wAt W (i + 1)) S > 0) || ((decide ((wAt W (i + 1)).2 ≤ S.2) && decide (S.2 < (wAt W i).2)) && decide (sideI (wAt W i) (wAt W (i + 1)) S < 0))) := rfl
    have rs : roundTo W S (i + 1) = if passB (wAt W i) (wAt W (i + 1)) S = true then !roundTo W S i else roundTo W S i := rfl
    generalize sideI (wAt W i) (wAt W (i + 1)) S = z at pb ⊢
    refine ⟨_, rfl, a1, _, 1, .int (wAt W i).2, rfl, rfl, SqT.of q1, atI_nat (j := 1) rfl, _, rfl, a3, _, 1, .int S.2, rfl, rfl, SqT.of q3, atI_nat (j := 1) rfl, _, _, rfl, rfl, _, rfl, ?_⟩
    refine ifAndN (decide (S.2 < (wAt W (i + 1)).2)) ?_ fun y => ⟨_, rfl, a2, _, 1, .int (wAt W (i + 1)).2, rfl, rfl, SqT.of q2, atI_nat (j := 1) rfl, _, _, rfl, rfl, y⟩
    refine ⟨_, rfl, a2, _, 1, .int (wAt W (i + 1)).2, rfl, rfl, SqT.of q2, atI_nat (j := 1) rfl, _, rfl, a3, _, 1, .int S.2, rfl, rfl, SqT.of q3, atI_nat (j := 1) rfl, _, _, rfl, rfl, _, rfl, ?_⟩
    refine ifAndN (decide (S.2 < (wAt W i).2)) ?_ fun y => ⟨_, rfl, a1, _, 1, .int (wAt W i).2, rfl, rfl, SqT.of q1, atI_nat (j := 1) rfl, _, _, rfl, rfl, y⟩
    generalize (decide ((wAt W i).2 ≤ S.2) && decide (S.2 < (wAt W (i + 1)).2)) = u at pb ⊢
    generalize (decide ((wAt W (i + 1)).2 ≤ S.2) && decide (S.2 < (wAt W i).2)) = d at pb ⊢
    have yes : passB (wAt W i) (wAt W (i + 1)) S = true → roundTo W S (i + 1) = !roundTo W S i := fun y => by rw [rs, if_pos y]
    have no : passB (wAt W i) (wAt W (i + 1)) S = false → roundTo W S (i + 1) = roundTo W S i := fun y => by rw [rs, if_neg (by rw [y]; decide)]
    refine ⟨_, rfl, _, rfl, ?_⟩
    cases u with
    | true =>
      refine iteT ⟨_, rfl, _, _, rfl, rfl, _, rfl, ?_⟩
      cases hz : decide (z > 0) with
      | true => exact iteT (iteT ⟨_, rfl, _, rfl, s2, _, _, _, _, _, _, eq9 (yes (by rw [pb, hz]; rfl))⟩)
      | false =>
        refine iteF ⟨_, rfl, _, rfl, ?_⟩
        cases d with
        | true =>
          refine iteT ⟨_, rfl, _, _, rfl, rfl, _, rfl, ?_⟩
          cases hz2 : decide (z < 0) with
          | true => exact iteT ⟨_, rfl, _, rfl, s2, _, _, _, _, _, _, eq9 (yes (by rw [pb, hz2]; simp))⟩
          | false => exact iteF ⟨s2, _, _, _, _, _, _, eq9 (no (by rw [pb, hz2]; simp [hz]))⟩
        | false => exact iteF (iteF ⟨s2, _, _, _, _, _, _, eq9 (no (by rw [pb]; simp [hz]))⟩)
    | false =>
      refine iteF (iteF ⟨_, rfl, _, rfl, ?_⟩)
      cases d with
      | true =>
        refine iteT ⟨_, rfl, _, _, rfl, rfl, _, rfl, ?_⟩
        cases hz2 : decide (z < 0) with
        | true => exact iteT ⟨_, rfl, _, rfl, s2, _, _, _, _, _, _, eq9 (yes (by rw [pb, hz2]; simp))⟩
        | false => exact iteF ⟨s2, _, _, _, _, _, _, eq9 (no (by rw [pb, hz2]; simp))⟩
      | false => exact iteF (iteF ⟨s2, _, _, _, _, _, _, eq9 (no (by rw [pb]; simp))⟩)
  · subst es
    rw [elen]
    exact ⟨_, rfl, k _ s1⟩
end
end SDP
set_option Elab.async false
set_option linter.all false
set_option maxRecDepth 100000
set_option maxHeartbeats 4000000
set_option exponentiation.threshold 100000
/-! # where_among -/
namespace SDP
open PySem PySem.Spec PyProof.Rows L2 SDX SD TL SR
open SeamNum (Bytes fits FINE Point fitsP)
section
variable {P : Program} {w : World} {K : PySem.W.Frag} {mg : Str → Option Value} {base : Heap}
structure WhT (K : PySem.W.Frag) (mg : Str → Option Value) : Prop where
  hit : ∃ fS fA fH dS dA dH, HitT K mg fS fA fH dS dA dH
  aft : ∃ f d, Fn1 K mg "after" S_after ["row", "index"] f d
  thru : ∃ f d, Fn1 K mg "edges_through" S_edges_through ["whole", "spot"] f d
  round : ∃ f d, Fn1 K mg "goes_round" S_goes_round ["whole", "spot"] f d
  on : Gi mg "ON_RIM" 1
  ins : Gi mg "INSIDE" 2
  out : Gi mg "OUTSIDE" 0
  len : mg "len" = none
  enum : mg "enumerate" = none
def spAmong : Sp := fun vs H Q _ => ∃ (l : Addr) (W : WRow) (v : V) (S : IP), vs = [.ref l, v] ∧ WL H l W ∧ Tw H v S.1 S.2 ∧ (∀ P ∈ W, WB P) ∧ WB S ∧ 0 < W.length ∧ W.length ≤ 16 ∧ ∀ H', Same H H' → Q (.int (whereI W S)) H'
theorem scAmong : FnScope ["whole", "spot"] ["whole", "spot"] (defScope S_where_among) := ⟨rfl, rfl, rfl, by decide +kernel, rfl, by decide +kernel, by decide +kernel⟩
theorem ok_among {f : Addr} {fd : FuncData} (F : Fn1 K mg "where_among" S_where_among ["whole", "spot"] f fd) (T : WhT K mg) : FnOk P w K mg base CX0 4 f fd ["whole", "spot"] spAmong := by
  refine F.F.ok scAmong (fun vs H Q E h => ?_) (fun cdv A outer s H vs Q E hr h => ?_)
  · obtain ⟨l, W, v, S, rfl, _⟩ := h
    rfl
  obtain ⟨l, W, v, S, rfl, hW, tS, hw, wS, n0, h16, k⟩ := h
  obtain ⟨fS, fA, fH, dS, dA, dH, TH⟩ := T.hit
  obtain ⟨fF, dF, FA⟩ := T.aft
  obtain ⟨fT, dT, FT⟩ := T.thru
  obtain ⟨fG, dG, FG⟩ := T.round
  have okT := ok_thru (P := P) (w := w) (base := base) FT TH FA T.len T.enum
  have okG := ok_round (P := P) (w := w) (base := base) FG TH.S FA T.len T.enum
  have hr2 : Room 2 _ := hr.mono (by decide)
  refine ⟨_, pss_cons (ps_if (pt_cmpR (op_neNil hr.units) (pe_call okT hr rfl FT.m FT.F.kp FT.b .nil pass0 (pa_cons (pv 0) (pa_cons (pv 1) pa_nil))) (pe_lst pa_nil) (nomark _)) (pss_one (ps_ret (pe_gi rfl T.on))) pss_nil)
    (pss_one (ps_ret (pe_ifExp (pt_val (pe_call okG hr2 rfl FG.m FG.F.kp FG.b .nil pass0 (pa_cons (pv 0) (pa_cons (pv 1) pa_nil)))) (pe_gi rfl T.ins) (pe_gi rfl T.out)))), ?_⟩
  refine ⟨_, rfl, _, rfl, l, W, v, S, rfl, hW, tS, hw, wS, n0, h16, fun H1 p s1 hp e1 => ?_⟩
  refine ⟨by show 0 ≤ sizeLine; decide, fun q hq => ?_⟩
  have s2 : Same H1 (upd H1 q (.lst [])) := same_new hq _
  refine ⟨p, q, _, rfl, rfl, SqL.of (s2 _ _ e1), SqL.of upd_same, _, rfl, ?_⟩
  have s3 := s1.trans s2
  generalize upd H1 q (.lst []) = H2 at s3 ⊢
  unfold whereI at k
  cases er : rims W S W.length with
  | cons a r =>
    rw [er, if_pos (by simp)] at k
    exact iteT (k H2 s3)
  | nil =>
    rw [er, if_neg (by simp)] at k
    refine iteF ⟨_, rfl, _, rfl, l, W, v, S, rfl, hW.same s3, tS.same s3, hw, wS, n0, h16, fun H3 s4 => ⟨_, rfl, ?_⟩⟩
    have k' := k H3 (s3.trans s4)
    cases eg : roundTo W S W.length with
    | true =>
      rw [eg, if_pos rfl] at k'
      exact iteT k'
    | false =>
      rw [eg, if_neg (by decide)] at k'
      exact iteF k'
theorem cut_last (xs : List V) (v : V) : cutV (xs ++ [v]) none (some (-1)) = xs := by
  unfold cutV
  have e : HT.sIx (xs ++ [v]).length (xs ++ [v]).length (some (-1)) = xs.length := by
    unfold HT.sIx
    simp only
    rw [if_pos (by decide), List.length_append]
    show ((-1 : Int) + ((xs.length + 1 : Nat) : Int)).toNat = _
    omega
  rw [e, HT.sIx_none, List.drop_zero, Nat.sub_zero]
  simp
structure AwT (K : PySem.W.Frag) (mg : Str → Option Value) : Prop where
  B : ∃ f d, Fn1 K mg "common_below" S_common_below ["corners"] f d
  W : ∃ f d, Fn1 K mg "whole_corners" S_whole_corners ["corners", "below"] f d
  L : ∃ f d, Fn1 K mg "all_whole" S_all_whole ["corners"] f d
end
end SDP
set_option Elab.async false
set_option linter.all false
set_option maxRecDepth 100000
set_option maxHeartbeats 4000000
set_option exponentiation.threshold 100000
/-! # where_lies -/
namespace SDP
open PySem PySem.Spec PyProof.Rows L2 SDX SD TL SR
open SeamNum (Bytes fits FINE Point fitsP)
section
variable {P : Program} {w : World} {K : PySem.W.Frag} {mg : Str → Option Value} {base : Heap}
theorem row_snoc {D : Int} {r : SeamPoly.Row} {q : Point} (hD : D = belowTo (r ++ [q]) (r ++ [q]).length) : ScR D (r.map (wholeP D)) r ∧ Sc D (wholeP D q) q := by
  have sc := whole_sc hD
  refine ⟨⟨sc.pos, List.length_map _, fun i hi => ?_⟩, ?_⟩
  · have z := sc.at_ i (by rw [List.length_append]; omega)
    rw [List.map_append, List.getD_eq_getElem?_getD, List.getD_eq_getElem?_getD, List.getElem?_append_left (by rw [List.length_map]; exact hi), List.getElem?_append_left hi] at z
    rw [List.getD_eq_getElem?_getD, List.getD_eq_getElem?_getD]
    exact z
  · have z := sc.at_ r.length (by rw [List.length_append]; exact Nat.lt_succ_self _)
    rw [List.map_append, List.getD_eq_getElem?_getD, List.getD_eq_getElem?_getD, List.getElem?_append_right (by rw [List.length_map]; exact Nat.le_refl _), List.getElem?_append_right (Nat.le_refl _), List.length_map, Nat.sub_self] at z
    exact z
/-- what stands before the parts, once whole: the row's corners and the spot -/
def spLies : Sp := fun vs H Q _ => ∃ (l : Addr) (r : SeamPoly.Row) (v : V) (q : Point), vs = [.ref l, v] ∧ RowL H l r ∧ PtAt H v q ∧ RowFine r ∧ fitsP q = true ∧ ∀ H', Same H H' → Q (.int (whereR r q)) H'
theorem scLies : FnScope ["corners", "point", "whole"] ["corners", "point"] (defScope S_where_lies) := ⟨rfl, rfl, rfl, by decide +kernel, rfl, by decide +kernel, by decide +kernel⟩
theorem ok_lies {f fM : Addr} {fd dM : FuncData} (F : Fn1 K mg "where_lies" S_where_lies ["corners", "point"] f fd) (FM : Fn1 K mg "where_among" S_where_among ["whole", "spot"] fM dM) (T : WhT K mg) (T2 : AwT K mg) : FnOk P w K mg base CX0 5 f fd ["corners", "point"] spLies := by
  refine F.F.ok scLies (fun vs H Q E h => ?_) (fun cdv A outer s H vs Q E hr h => ?_)
  · obtain ⟨l, r, v, q, rfl, _⟩ := h
    rfl
  obtain ⟨l, r, v, q, rfl, ⟨vs, hl, hp⟩, tq, hr', hq, k⟩ := h
  obtain ⟨fB, dB, FB⟩ := T2.B
  obtain ⟨fW, dW, FW⟩ := T2.W
  obtain ⟨fL, dL, FL⟩ := T2.L
  have okM := ok_among (P := P) (w := w) (base := base) FM T
  have hr2 : Room 2 _ := hr.mono (by decide)
  refine ⟨_, pss_cons (ps_set (i := 2) scLies.nd rfl (Or.inl rfl) (pe_call (ok_allW FL FB FW) hr2 rfl FL.m FL.F.kp FL.b .nil pass0 (pa_cons (pe_op op_cat (pv 0) (pe_lst (pa_cons (pv 1) pa_nil))) pa_nil)))
    (pss_one (ps_ret (pe_call okM hr rfl FM.m FM.F.kp FM.b .nil pass0 (pa_cons (pe_slice sl_list (pv 2) po_none (po_some (pe_un un_neg pe_int))) (pa_cons (pe_ix ix_list (pv 2) (pe_un un_neg pe_int) (fun _ _ => rfl)) pa_nil))))), ?_⟩
  have elen : vs.length = r.length := Paired.length hp
  have h3 := hr'.three
  have h16 := hr'.most
  have hf := hr'.fits
  refine ⟨_, rfl, _, rfl, by show 1 ≤ sizeLine; decide, fun t ht => ?_⟩
  have s1 : Same H (upd H t (.lst [v])) := same_new ht _
  have e1 : (upd H t (.lst [v])) t = some (.lst [v]) := upd_same
  generalize upd H t (.lst [v]) = H1 at s1 e1 ⊢
  refine ⟨l, t, vs, [v], rfl, rfl, s1 _ _ hl, e1, by rw [sizeLine_eq]; show _ + 1 ≤ _; omega, fun t2 ht2 => ?_⟩
  have s2 := s1.trans (same_new ht2 (.lst (vs ++ [v])))
  have e2 : (upd H1 t2 (.lst (vs ++ [v]))) t2 = some (.lst (vs ++ [v])) := upd_same
  generalize upd H1 t2 (.lst (vs ++ [v])) = H2 at s2 e2 ⊢
  have row2 : RowL H2 t2 (r ++ [q]) := ⟨_, e2, paired_snoc (paired_map (fun _ _ z => z.same s2) hp) (tq.same s2)⟩
  have hf2 : ∀ p ∈ r ++ [q], fitsP p = true := fun p hp => by
    rcases List.mem_append.mp hp with z | z
    · exact hf p z
    · rw [List.mem_singleton.mp z]; exact hq
  have l17 : (r ++ [q]).length ≤ 17 := by rw [List.length_append]; show r.length + 1 ≤ 17; omega
  refine ⟨t2, r ++ [q], rfl, row2, hf2, l17, fun H3 t3 D eD s3 ht3 hW => ?_⟩
  obtain ⟨scR, scS⟩ := row_snoc eD
  have s4 := s2.trans s3
  obtain ⟨ws, e3, pw⟩ := hW
  rw [List.map_append] at pw
  obtain ⟨ws0, a, rfl, pw0, pa⟩ := paired_unsnoc pw
  have db : D.natAbs < 2 ^ 2200 := by rw [eD]; exact below_small hf2 l17
  refine ⟨_, rfl, _, rfl, _, rfl, t3, _, rfl, SqL.of e3, fun t4 ht4 => ?_⟩
  rw [cut_last]
  have s5 := same_new (H := H3) ht4 (.lst ws0)
  have e4 : (upd H3 t4 (.lst ws0)) t4 = some (.lst ws0) := upd_same
  generalize upd H3 t4 (.lst ws0) = H4 at s5 e4 ⊢
  refine ⟨_, rfl, _, rfl, t3, _, _, a, rfl, rfl, SqL.of (s5 _ _ e3), atI_last ws0 a, ?_⟩
  refine ⟨t4, r.map (wholeP D), a, wholeP D q, rfl, ⟨ws0, e4, paired_map (fun _ _ z => z.same s5) pw0⟩, pa.same s5, fun P hP => ?_, wholeP_bits hq db scR.pos, by rw [List.length_map]; omega, by rw [List.length_map]; omega, fun H5 s6 => ?_⟩
  · obtain ⟨p, hp, rfl⟩ := List.mem_map.mp hP
    exact wholeP_bits (hf p hp) db scR.pos
  · rw [where_is scR hr' scS]
    exact k H5 ((s4.trans s5).trans s6)
end
end SDP
set_option Elab.async false
set_option linter.all false
set_option maxRecDepth 100000
set_option maxHeartbeats 4000000
set_option exponentiation.threshold 100000
/-! # number_at, partner, sewn_to, edges_at -/
namespace SDP
open PySem PySem.Spec PyProof.Rows L2 SDX SD TL SR
open SeamNum (Bytes fits FINE Point fitsP)
open SeamPattern (Edge Seam)
/-- a place in the heap -/
def PlAt (H : Hp) (v : V) (x : SeamPattern.Place) : Prop := ∃ a vp, v = .ref a ∧ H a = some (.tup [.int (x.1 : Int), vp]) ∧ PtAt H vp x.2
theorem PlAt.kp {M : List Addr} {H H' : Hp} {v : V} {x : SeamPattern.Place} (h : PlAt H v x) (k : Kp M H H') : PlAt H' v x := by
  obtain ⟨a, vp, e, q, t⟩ := h
  exact ⟨a, vp, e, k _ _ q (.inr rfl), t.kp k⟩
theorem PlAt.same {H H' : Hp} {v : V} {x : SeamPattern.Place} (h : PlAt H v x) (s : Same H H') : PlAt H' v x := h.kp (Kp.same (M := []) s)
section
variable {P : Program} {w : World} {K : PySem.W.Frag} {mg : Str → Option Value} {base : Heap} {D : PAd} {R : RefAd}
structure FineT (K : PySem.W.Frag) (mg : Str → Option Value) (R : RefAd) (cF : Addr) : Prop where
  RC : RefC K mg R
  E : ∃ f d, ErrC K mg "TooFine" cF f ∧ L2.Fun K "__init__" "TooFine.__init__" S_TooFine_I f d ∧ L2.Binds K d ["self"] []
theorem scFine8 : FnScope ["self"] ["self"] (defScope S_TooFine_I) := ⟨rfl, rfl, rfl, by decide +kernel, rfl, by decide +kernel, by decide +kernel⟩
theorem ok_fine8 {f f1 C1 : Addr} {fd fd1 : FuncData} {mc : Value} (F : L2.Fun K "__init__" "TooFine.__init__" S_TooFine_I f fd) (F1 : L2.Fun K "__init__" "Refusal.__init__" sRefI f1 fd1) (b1 : L2.Binds K fd1 ["self", "number", "signed"] [])
    (g1 : mg "Refusal" = some (.ref C1)) (cr : ClX.CRead K C1 mc) (cv : PySem.W.findCls K (.ref C1) mc "__init__" = some (.val (.ref f1)))
    (mE : mg "Exception" = none) (vE : PySem.W.findCls K (.type "Exception") (.type "type") "__init__" = some (.val (.builtin "Exception.__init__"))) :
    FnOk P w K mg base CX0 2 f fd ["self"] (spNul K (-6)) := by
  refine F.ok scFine8 (fun vs H Q E h => ?_) (fun cdv A outer s H vs Q E hr h => ?_)
  · obtain ⟨a, C, rfl, _⟩ := h
    rfl
  obtain ⟨a, C, rfl, T, hn, hs, ha, q⟩ := h
  refine ⟨_, pss_one (ps_expr (pe_cfun (ok_refI F1 mE vE) hr rfl g1 cr cv F1.kp b1 .nil pass0 (pa_cons (pv 0) (pa_cons (pe_un un_neg pe_int) (pa_cons (pe_lst pa_nil) pa_nil))))), ?_⟩
  exact ⟨_, rfl, _, rfl, (by show 0 ≤ sizeLine; decide), fun l hl => nul_pure (E := E0) ha T hn hs q l hl⟩
structure NatT (K : PySem.W.Frag) (mg : Str → Option Value) (P : Program) (base : Heap) (R : RefAd) (cF : Addr) : Prop where
  F : FineT K mg R cF
  low : ∃ fL fN dL dN, LowT K mg P base fL fN dL dN
  Pl : ∃ f d, Fn1 K mg "plus" S_plus ["a", "b"] f d
  M : ∃ f d, Fn1 K mg "minus" S_minus ["a", "b"] f d
  X : ∃ f d, Fn1 K mg "times" S_times ["a", "b"] f d
def spNumAt (cF : Addr) : Sp := fun vs H Q E => ∃ (vt va vb : V) (t a b : Rat) (n d : Int), vs = [vt, va, vb] ∧ Tw H vt n d ∧ Rep t n d ∧ n.natAbs < 2 ^ 300 ∧ d.natAbs < 2 ^ 300 ∧ Nm H va a ∧ Nm H vb b ∧ fits a = true ∧ fits b = true ∧
  (fits (a + t * (b - a)) = true → ∀ H' q, Same H H' → Nm H' (.ref q) (a + t * (b - a)) → Q (.ref q) H') ∧ (fits (a + t * (b - a)) = false → Rs cF E (-6) [])
theorem scNumAt : FnScope ["part", "a", "b", "number"] ["part", "a", "b"] (defScope S_number_at) := ⟨rfl, rfl, rfl, by decide +kernel, rfl, by decide +kernel, by decide +kernel⟩
theorem ok_numAt {cF : Addr} (T : NatT K mg P base R cF) {f : Addr} {fd : FuncData} (F : Fn1 K mg "number_at" S_number_at ["part", "a", "b"] f fd) : FnOk P w K mg base (L2N.CX P w) 34 f fd ["part", "a", "b"] (spNumAt cF) := by
  refine okN F.F scNumAt (fun vs H Q E h => ?_) (fun cdv A0 outer s H vs Q E hr h => ?_)
  · obtain ⟨vt, va, vb, t, a, b, n, d, rfl, _⟩ := h
    rfl
  obtain ⟨vt, va, vb, t, a, b, n, d, rfl, ht, hrep, hn, hd, ha, hb, fa, fb, good, bad⟩ := h
  have hr1 : Room 1 _ := hr.mono (by decide)
  have hr3 : Room 3 _ := hr.mono (by decide)
  have tk := L2N.takes_of (X := cxOf (L2N.CX P w) P w K mg base ["part", "a", "b", "number"] "number_at" (defScope S_number_at) f cdv A0 outer s H E) (E := E) rfl rfl rfl rfl
  obtain ⟨fL, fN, dL, dN, low⟩ := T.low
  obtain ⟨_, _, FP⟩ := T.Pl
  obtain ⟨_, _, FM⟩ := T.M
  obtain ⟨_, _, FX⟩ := T.X
  obtain ⟨_, _, EF, FF, bF⟩ := T.F.E
  have RC := T.F.RC
  refine ⟨_, pss_cons (ps_set (i := 3) scNumAt.nd rfl (Or.inl rfl) (pe_call (ok_low low) hr rfl low.L.m low.L.F.kp low.L.b .nil pass0 (pa_cons (pe_call (ok_plus FP) hr1 rfl FP.m FP.F.kp FP.b .nil pass0 (pa_cons (pv 1) (pa_cons (pe_call (ok_times FX) hr1 rfl FX.m FX.F.kp FX.b .nil pass0 (pa_cons (pv 0) (pa_cons (pe_call (ok_minus FM) hr1 rfl FM.m FM.F.kp FM.b .nil pass0 (pa_cons (pv 2) (pa_cons (pv 1) pa_nil))) pa_nil))) pa_nil))) pa_nil)))
    (pss_cons (ps_if (pt_cmpR op_isN (pv 3) pe_non (nomark _)) (pss_one (L2N.ps_raise rfl tk (pmk_exN0 EF.ex EF.iC EF.tI (ok_fine8 FF RC.FRef RC.bRef RC.ref.g RC.cr RC.cv RC.mE RC.vE) hr3 bF pass0 rfl EF.g))) pss_nil)
    (pss_one (ps_ret (pv 3)))), ?_⟩
  obtain ⟨a1, a2⟩ := nm_bits fa
  obtain ⟨b1, b2⟩ := nm_bits fb
  refine ⟨_, rfl, _, rfl, _, rfl, _, rfl, vb, va, _, _, _, _, 63, 63, rfl, hb, ha, b1, b2, a1, a2, by decide, fun t1 ht1 => ?_⟩
  have s1 := same_new ht1 (two (b.num * a.den - a.num * b.den) (b.den * a.den))
  have h1 : (upd H t1 (two (b.num * a.den - a.num * b.den) (b.den * a.den))) t1 = some (two (b.num * a.den - a.num * b.den) (b.den * a.den)) := upd_same
  generalize upd H t1 (two (b.num * a.den - a.num * b.den) (b.den * a.den)) = H1 at s1 h1 ⊢
  have r1 := (Rep.of b).sub (Rep.of a)
  have c1 : B2 128 (b.num * a.den - a.num * b.den) (b.den * a.den) := ⟨bmono (bsub (bmul b1 a2) (bmul a1 b2)) (by decide), bmono (bmul b2 a2) (by decide)⟩
  generalize b.num * a.den - a.num * b.den = N1 at *
  generalize (b.den : Int) * a.den = D1 at *
  refine ⟨vt, .ref t1, n, d, N1, D1, 300, 128, rfl, Tw.same ht s1, Tw.of h1, hn, hd, c1.1, c1.2, by decide, fun t2 ht2 => ?_⟩
  have s2 := same_new ht2 (two (n * N1) (d * D1))
  have h2 : (upd H1 t2 (two (n * N1) (d * D1))) t2 = some (two (n * N1) (d * D1)) := upd_same
  generalize upd H1 t2 (two (n * N1) (d * D1)) = H2 at s2 h2 ⊢
  have r2 := hrep.mul r1
  have c2 : B2 428 (n * N1) (d * D1) := ⟨bmul hn c1.1, bmul hd c1.2⟩
  generalize n * N1 = N2 at *
  generalize d * D1 = D2 at *
  have s12 := s1.trans s2
  refine ⟨va, .ref t2, _, _, N2, D2, 63, 428, rfl, Tw.same ha s12, Tw.of h2, a1, a2, c2.1, c2.2, by decide, fun t3 ht3 => ?_⟩
  have s3 := same_new ht3 (two (a.num * D2 + N2 * a.den) (a.den * D2))
  have h3 : (upd H2 t3 (two (a.num * D2 + N2 * a.den) (a.den * D2))) t3 = some (two (a.num * D2 + N2 * a.den) (a.den * D2)) := upd_same
  generalize upd H2 t3 (two (a.num * D2 + N2 * a.den) (a.den * D2)) = H3 at s3 h3 ⊢
  have r3 := (Rep.of a).add r2
  have c3 : (a.num * D2 + N2 * a.den).natAbs < 2 ^ BIG ∧ (a.den * D2).natAbs < 2 ^ BIG := by
    refine ⟨?_, bmono (bmul a2 c2.2) (by decide)⟩
    have q := bsub (bmul a1 c2.2) (bmul (x := -N2) (y := a.den) (a := 428) (b := 63) (by rw [Int.natAbs_neg]; exact c2.1) a2)
    rw [Int.neg_mul, Int.sub_neg] at q
    exact bmono q (by decide)
  have s13 := s12.trans s3
  refine ⟨_, _, _, a + t * (b - a), rfl, Tw.of h3, r3, c3.1, c3.2, fun H4 q s4 hq hf h4 => ?_, fun H4 s4 hf => ?_⟩
  · exact ⟨_, rfl, rfl, _, rfl, iteF ⟨_, rfl, good hf H4 q (s13.trans s4) ⟨q, rfl, h4⟩⟩⟩
  · exact ⟨_, rfl, rfl, _, rfl, iteT (mk_nul EF (bad hf))⟩
/-! ### partner -/
structure ParT (K : PySem.W.Frag) (mg : Str → Option Value) (P : Program) (base : Heap) (D : PAd) (R : RefAd) (cF : Addr) : Prop where
  N : NatT K mg P base R cF
  E : EndsT K mg D
  Pt : PartT K mg
  NA : ∃ f d, Fn1 K mg "number_at" S_number_at ["part", "a", "b"] f d
  PW : ∃ f d, Fn1 K mg "part_of_way" S_part_of_way ["a", "b", "point"] f d
def spPartner (D : PAd) (cF : Addr) : Sp := fun vs H Q E => ∃ r pl sl vcs ps ss, ∃ (ve vf vp : V) (e f : Edge) (p : Point) (t : Rat), vs = [.ref r, ve, vf, vp] ∧ PatS D.CT D.CP H r pl sl vcs ps ss ∧ EdAt H ve e ∧ EdAt H vf f ∧ PtAt H vp p ∧ fitsP p = true ∧
  (∀ q ∈ ps, ∀ c ∈ q.row, fitsP c = true) ∧ e.2 < ((⟨ps, ss⟩ : SeamPattern.Pattern).row e.1).length ∧ f.2 < ((⟨ps, ss⟩ : SeamPattern.Pattern).row f.1).length ∧ fromOf ⟨ps, ss⟩ e ≠ toOf ⟨ps, ss⟩ e ∧ p = SeamNum.part (fromOf ⟨ps, ss⟩ e) (toOf ⟨ps, ss⟩ e) t ∧
  (fitsP (SeamNum.part (toOf ⟨ps, ss⟩ f) (fromOf ⟨ps, ss⟩ f) t) = true → ∀ H' q, Same H H' → PlAt H' (.ref q) (f.1, SeamNum.part (toOf ⟨ps, ss⟩ f) (fromOf ⟨ps, ss⟩ f) t) → Q (.ref q) H') ∧ (fitsP (SeamNum.part (toOf ⟨ps, ss⟩ f) (fromOf ⟨ps, ss⟩ f) t) = false → Rs cF E (-6) [])
theorem scPartner : FnScope ["pattern", "edge", "other", "point", "way", "back", "part", "x", "y"] ["pattern", "edge", "other", "point"] (defScope S_partner) := ⟨rfl, rfl, rfl, by decide +kernel, rfl, by decide +kernel, by decide +kernel⟩
theorem edge_fits {ps : List SeamPattern.Piece} {ss : List Seam} {e : Edge} (hf : ∀ q ∈ ps, ∀ c ∈ q.row, fitsP c = true) (h : e.2 < ((⟨ps, ss⟩ : SeamPattern.Pattern).row e.1).length) : fitsP (fromOf ⟨ps, ss⟩ e) = true ∧ fitsP (toOf ⟨ps, ss⟩ e) = true := by
  obtain ⟨p, hp, hl⟩ := edge_at h
  have er := row_is (ss := ss) hp
  have l0 : 0 < p.row.length := by omega
  have mp := List.mem_of_getElem? hp
  constructor
  · show fitsP (SeamPoly.at_ ((⟨ps, ss⟩ : SeamPattern.Pattern).row e.1) e.2) = true
    rw [er]
    exact hf p mp _ (List.mem_of_getElem? (rowA_get hl))
  · show fitsP (SeamPoly.at_ ((⟨ps, ss⟩ : SeamPattern.Pattern).row e.1) (e.2 + 1)) = true
    rw [er]
    exact hf p mp _ (List.mem_of_getElem? (rowA_mod (e.2 + 1) l0))
theorem ok_partner {cF : Addr} (T : ParT K mg P base D R cF) {f : Addr} {fd : FuncData} (F : Fn1 K mg "partner" S_partner ["pattern", "edge", "other", "point"] f fd) : FnOk P w K mg base (L2N.CX P w) 35 f fd ["pattern", "edge", "other", "point"] (spPartner D cF) := by
  refine okN F.F scPartner (fun vs H Q E h => ?_) (fun cdv A0 outer s H vs Q E hr h => ?_)
  · obtain ⟨r, pl, sl, vcs, ps, ss, ve, vf, vp, e, g, p, t, rfl, _⟩ := h
    rfl
  obtain ⟨r, pl, sl, vcs, ps, ss, ve, vf, vp, e, g, p, t, rfl, S, he, hg, hp, fp, hfit, le, lg, ne, ep, good, bad⟩ := h
  have hr2 : Room 2 _ := hr.mono (by decide)
  have hr3 : Room 3 _ := hr.mono (by decide)
  obtain ⟨_, _, FE⟩ := T.E.E
  obtain ⟨_, _, FN⟩ := T.NA
  obtain ⟨_, _, FW⟩ := T.PW
  have okE := ok_ends (P := P) (w := w) (base := base) T.E FE
  have okN' := ok_numAt (w := w) T.N FN
  refine ⟨_, pss_cons (ps_set (i := 4) scPartner.nd rfl (Or.inl rfl) (pe_call okE hr2 rfl FE.m FE.F.kp FE.b .nil pass0 (pa_cons (pv 0) (pa_cons (pv 1) pa_nil))))
    (pss_cons (ps_set (i := 5) scPartner.nd rfl (Or.inl rfl) (pe_call okE hr2 rfl FE.m FE.F.kp FE.b .nil pass0 (pa_cons (pv 0) (pa_cons (pv 2) pa_nil))))
    (pss_cons (ps_set (i := 6) scPartner.nd rfl (Or.inl rfl) (pe_call (ok_part T.Pt FW) hr3 rfl FW.m FW.F.kp FW.b .nil pass0 (pa_cons (pe_ix ix_tup (pv 4) pe_int (fun _ _ => rfl)) (pa_cons (pe_ix ix_tup (pv 4) pe_int (fun _ _ => rfl)) (pa_cons (pv 3) pa_nil)))))
    (pss_cons (ps_set (i := 7) scPartner.nd rfl (Or.inl rfl) (pe_call okN' hr rfl FN.m FN.F.kp FN.b .nil passN (pa_cons (pv 6) (pa_cons (pe_ix ix_tup (pe_ix ix_tup (pv 5) pe_int (fun _ _ => rfl)) pe_int (fun _ _ => rfl)) (pa_cons (pe_ix ix_tup (pe_ix ix_tup (pv 5) pe_int (fun _ _ => rfl)) pe_int (fun _ _ => rfl)) pa_nil)))))
    (pss_cons (ps_set (i := 8) scPartner.nd rfl (Or.inl rfl) (pe_call okN' hr rfl FN.m FN.F.kp FN.b .nil passN (pa_cons (pv 6) (pa_cons (pe_ix ix_tup (pe_ix ix_tup (pv 5) pe_int (fun _ _ => rfl)) pe_int (fun _ _ => rfl)) (pa_cons (pe_ix ix_tup (pe_ix ix_tup (pv 5) pe_int (fun _ _ => rfl)) pe_int (fun _ _ => rfl)) pa_nil)))))
    (pss_one (ps_ret (pe_tup (pa_cons (pe_ix ix_tup (pv 2) pe_int (fun _ _ => rfl)) (pa_cons (pe_tup (pa_cons (pv 7) (pa_cons (pv 8) pa_nil))) pa_nil))))))))), ?_⟩
  obtain ⟨f1, f2⟩ := edge_fits hfit le
  obtain ⟨g1, g2⟩ := edge_fits hfit lg
  have g1' : (fits (fromOf ⟨ps, ss⟩ g).1 && fits (fromOf ⟨ps, ss⟩ g).2) = true := g1
  have g2' : (fits (toOf ⟨ps, ss⟩ g).1 && fits (toOf ⟨ps, ss⟩ g).2) = true := g2
  rw [Bool.and_eq_true] at g1' g2'
  have ex : (SeamNum.part (toOf ⟨ps, ss⟩ g) (fromOf ⟨ps, ss⟩ g) t) = ((toOf ⟨ps, ss⟩ g).1 + t * ((fromOf ⟨ps, ss⟩ g).1 - (toOf ⟨ps, ss⟩ g).1), (toOf ⟨ps, ss⟩ g).2 + t * ((fromOf ⟨ps, ss⟩ g).2 - (toOf ⟨ps, ss⟩ g).2)) := rfl
  have efit : fitsP (SeamNum.part (toOf ⟨ps, ss⟩ g) (fromOf ⟨ps, ss⟩ g) t) = (fits ((toOf ⟨ps, ss⟩ g).1 + t * ((fromOf ⟨ps, ss⟩ g).1 - (toOf ⟨ps, ss⟩ g).1)) && fits ((toOf ⟨ps, ss⟩ g).2 + t * ((fromOf ⟨ps, ss⟩ g).2 - (toOf ⟨ps, ss⟩ g).2))) := rfl
  rw [efit] at good bad
  rw [ex] at good
  refine ⟨_, rfl, _, rfl, r, pl, sl, vcs, ps, ss, ve, e, rfl, S, he, le, fun H1 w1 va vb s1 hw1 hva hvb => ?_⟩
  refine ⟨_, rfl, _, rfl, r, pl, sl, vcs, ps, ss, vf, g, rfl, S.same s1, Tw.same hg s1, lg, fun H2 w2 vc vd s2 hw2 hvc hvd => ?_⟩
  have s12 := s1.trans s2
  obtain ⟨ac, cx, cy, rfl, hac, hcx, hcy⟩ := hvc
  obtain ⟨ad, dx, dy, rfl, had, hdx, hdy⟩ := hvd
  refine ⟨_, rfl, w1, _, 0, va, rfl, rfl, SqT.of (s2 _ _ hw1), atI_nat (j := 0) rfl, _, rfl, w1, _, 1, vb, rfl, rfl, SqT.of (s2 _ _ hw1), atI_nat (j := 1) rfl, _, rfl, va, vb, vp, _, _, p, t, rfl, hva.same s2, hvb.same s2, hp.same s12, f1, f2, fp, ne, ep, fun H3 q n d s3 hq rep b1 b2 => ?_⟩
  have s13 := s12.trans s3
  refine ⟨_, rfl, _, rfl, w2, _, 1, .ref ad, rfl, rfl, SqT.of (s3 _ _ hw2), atI_nat (j := 1) rfl, ad, _, 0, dx, rfl, rfl, SqT.of (s3 _ _ had), atI_nat (j := 0) rfl, _, rfl, w2, _, 0, .ref ac, rfl, rfl, SqT.of (s3 _ _ hw2), atI_nat (j := 0) rfl, ac, _, 0, cx, rfl, rfl, SqT.of (s3 _ _ hac), atI_nat (j := 0) rfl, ?_⟩
  refine ⟨.ref q, dx, cx, t, _, _, n, d, rfl, Tw.of hq, rep, b1, b2, Tw.same hdx s3, Tw.same hcx s3, g2'.1, g1'.1, fun hfx H4 qx s4 hx => ?_, fun hfx => bad (by rw [hfx]; rfl)⟩
  have s34 := s3.trans s4
  have s14 := s13.trans s4
  refine ⟨_, rfl, _, rfl, w2, _, 1, .ref ad, rfl, rfl, SqT.of (s34 _ _ hw2), atI_nat (j := 1) rfl, ad, _, 1, dy, rfl, rfl, SqT.of (s34 _ _ had), atI_nat (j := 1) rfl, _, rfl, w2, _, 0, .ref ac, rfl, rfl, SqT.of (s34 _ _ hw2), atI_nat (j := 0) rfl, ac, _, 1, cy, rfl, rfl, SqT.of (s34 _ _ hac), atI_nat (j := 1) rfl, ?_⟩
  refine ⟨.ref q, dy, cy, t, _, _, n, d, rfl, (Tw.of hq).same s4, rep, b1, b2, Tw.same hdy s34, Tw.same hcy s34, g2'.2, g1'.2, fun hfy H5 qy s5 hy => ?_, fun hfy => bad (by rw [hfx, hfy]; rfl)⟩
  have s15 := s14.trans s5
  obtain ⟨af, rfl, hf⟩ := hg
  refine ⟨_, rfl, af, _, 0, .int g.1, rfl, rfl, SqT.of (s15 _ _ hf), atI_nat (j := 0) rfl, _, rfl, _, rfl, by show 2 ≤ sizeLine; decide, fun t1 ht1 => ⟨by show 2 ≤ sizeLine; decide, fun t2 ht2 => ?_⟩⟩
  have s6 := same_new ht1 (.tup [.ref qx, .ref qy])
  have h6 : (upd H5 t1 (.tup [.ref qx, .ref qy])) t1 = some (.tup [.ref qx, .ref qy]) := upd_same
  generalize upd H5 t1 (.tup [.ref qx, .ref qy]) = H6 at s6 h6 ht2 ⊢
  have s7 := same_new ht2 (.tup [.int (g.1 : Int), .ref t1])
  exact good (by rw [hfx, hfy]; rfl) _ t2 ((s15.trans s6).trans s7) ⟨t2, .ref t1, rfl, upd_same, t1, .ref qx, .ref qy, rfl, s7 _ _ h6, Tw.same (Tw.same (Tw.same hx s5) s6) s7, Tw.same (Tw.same hy s6) s7⟩
/-! ### sewn_to -/
def mateL (ss : List Seam) (e : Edge) : Option Edge := ss.findSome? fun (s : Seam) => if s.1 = e then some s.2 else if s.2 = e then some s.1 else none
theorem mateL_is (ps : List SeamPattern.Piece) (ss : List Seam) (e : Edge) : (⟨ps, ss⟩ : SeamPattern.Pattern).partner e = mateL ss e := rfl
theorem dp_edge8 {K : PySem.W.Frag} {H : Hp} {v : V} {e : Edge} (h : EdAt H v e) : Dp K H v (.tuple [.int (e.1 : Int), .int (e.2 : Int)]) := by
  obtain ⟨a, rfl, q⟩ := h
  exact .tup (SqT.of q) (.cons (.int _) (.cons (.int _) .nil))
theorem eqv_edge8 (e f : Edge) : PyData.eqv (.tuple [.int (e.1 : Int), .int (e.2 : Int)]) (.tuple [.int (f.1 : Int), .int (f.2 : Int)]) = decide (e = f) := by
  rw [Bool.eq_iff_iff, decide_eq_true_eq]
  simp only [PyData.eqv, PyData.eqvAll, Bool.and_eq_true, beq_iff_eq, and_true]
  refine ⟨fun ⟨x, y⟩ => Prod.ext (by omega) (by omega), fun z => by rw [z]; exact ⟨rfl, rfl⟩⟩
structure SwT (K : PySem.W.Frag) (mg : Str → Option Value) (D : PAd) (f : Addr) (d : FuncData) : Prop where
  C : PatC K mg D
  S : Mt1 K D.CT "sewn_to" "Pattern.sewn_to" S_Pattern_sewn_to ["self", "edge"] f d
def spSewnTo (D : PAd) : Sp := fun vs H Q _ => ∃ r pl sl vcs ps ss, ∃ (ve : V) (e : Edge), vs = [.ref r, ve] ∧ PatS D.CT D.CP H r pl sl vcs ps ss ∧ EdAt H ve e ∧ (∀ g, mateL ss e = some g → ∀ H' v, Same H H' → EdAt H' v g → Q v H') ∧ (mateL ss e = none → ∀ H', Same H H' → Q .non H')
theorem scSewnTo : FnScope ["self", "edge", "first", "second"] ["self", "edge"] (defScope S_Pattern_sewn_to) := ⟨rfl, rfl, rfl, by decide +kernel, rfl, by decide +kernel, by decide +kernel⟩
theorem mate_step {ss : List Seam} {e : Edge} {i : Nat} {s : Seam} (h : ss[i]? = some s) (hb : mateL (ss.take i) e = none) :
    (s.1 = e → mateL ss e = some s.2) ∧ (s.1 ≠ e → s.2 = e → mateL ss e = some s.1) ∧ (s.1 ≠ e → s.2 ≠ e → mateL (ss.take (i + 1)) e = none) := by
  obtain ⟨h1, h2⟩ := List.getElem?_eq_some_iff.mp h
  have es : ss = ss.take i ++ (s :: ss.drop (i + 1)) := by rw [← h2, ← List.drop_eq_getElem_cons h1, List.take_append_drop]
  have e1 : mateL ss e = mateL (s :: ss.drop (i + 1)) e := by
    conv => lhs; rw [es]
    unfold mateL at hb ⊢
    rw [List.findSome?_append, hb]
    rfl
  refine ⟨fun z => ?_, fun z y => ?_, fun z y => ?_⟩
  · rw [e1]
    unfold mateL
    rw [List.findSome?_cons, if_pos z]
  · rw [e1]
    unfold mateL
    rw [List.findSome?_cons, if_neg z, if_pos y]
  · rw [List.take_add_one, h]
    show mateL (ss.take i ++ [s]) e = none
    unfold mateL at hb ⊢
    rw [List.findSome?_append, hb, List.findSome?_cons, if_neg z, if_neg y]
    rfl
theorem ok_sewnTo {f : Addr} {fd : FuncData} (T : SwT K mg D f fd) : FnOk P w K mg base CX0 1 f fd ["self", "edge"] (spSewnTo D) := by
  refine T.S.F.ok scSewnTo (fun vs H Q E h => ?_) (fun cdv A outer s H vs Q E hr h => ?_)
  · obtain ⟨r, pl, sl, vcs, ps, ss, ve, e, rfl, _⟩ := h
    rfl
  obtain ⟨r, pl, sl, vcs, ps, ss, ve, e, rfl, S, he, good, none_⟩ := h
  refine ⟨_, pss_cons (ps_for PassesOwn.never rfl (pi_list (pe_fld (pv 0) rfl)) (pg_tup rfl (pgs_cons (pg_name (i := 2) scSewnTo.nd rfl (Or.inl rfl)) (pgs_cons (pg_name (i := 3) scSewnTo.nd rfl (Or.inl rfl)) pgs_nil)))
      (pss_cons (ps_if (pt_cmpR (op_eqD hr.units) (pv 1) (pv 2) (nomark _)) (pss_one (ps_ret (pv 3))) pss_nil)
      (pss_one (ps_if (pt_cmpR (op_eqD hr.units) (pv 1) (pv 3) (nomark _)) (pss_one (ps_ret (pv 2))) pss_nil))))
    (pss_one (ps_ret pe_non)), ?_⟩
  obtain ⟨dx, ei⟩ := S.ins
  obtain ⟨svs, hsv, hps⟩ := S.sms
  have lsv : svs.length = ss.length := Paired.length hps
  refine ⟨_, rfl, r, D.CT, dx, _, _, rfl, ei, T.C.clT, T.C.nTs, rfl, sl, rfl, ⟨_, SqL.of hsv⟩, ?_⟩
  refine for_list (xs := svs) (fun i σ H' => H' = H ∧ (∃ o2 o3, σ = [some (.ref r), some ve, o2, o3]) ∧ mateL (ss.take i) e = none)
    ⟨rfl, ⟨_, _, rfl⟩, rfl⟩ (fun i σ H' _ ⟨z, _⟩ => by rw [z]; exact SqL.of hsv) (fun i v σ H' hi ⟨z, ⟨o2, o3, eσ⟩, hm⟩ => ?_) (fun σ H' ⟨z, ⟨o2, o3, eσ⟩, hm⟩ => ?_)
  · subst z eσ
    obtain ⟨sm, hs, a, v1, v2, rfl, ha, h1, h2⟩ := paired_fst hps i v hi
    obtain ⟨m1, m2, m3⟩ := mate_step hs hm
    refine ⟨a, _, rfl, SqT.of ha, rfl, _, _, rfl, _, _, rfl, rfl, ?_⟩
    refine ⟨_, rfl, _, rfl, _, _, dp_edge8 he, dp_edge8 h1, rfl, rfl, _, rfl, ?_⟩
    rw [eqv_edge8]
    by_cases c1 : e = sm.1
    · rw [decide_eq_true c1]
      exact iteT ⟨_, rfl, good sm.2 (m1 c1.symm) _ v2 (Same.refl _) h2⟩
    · rw [decide_eq_false c1]
      refine iteF ⟨_, rfl, _, rfl, _, _, dp_edge8 he, dp_edge8 h2, rfl, rfl, _, rfl, ?_⟩
      rw [eqv_edge8]
      by_cases c2 : e = sm.2
      · rw [decide_eq_true c2]
        exact iteT ⟨_, rfl, good sm.1 (m2 (Ne.symm c1) c2.symm) _ v1 (Same.refl _) h1⟩
      · rw [decide_eq_false c2]
        exact iteF ⟨rfl, ⟨_, _, rfl⟩, m3 (Ne.symm c1) (Ne.symm c2)⟩
  · subst z eσ
    rw [lsv, List.take_length] at hm
    exact none_ hm _ (Same.refl _)
/-! ### edges_at -/
def rimsR (r : SeamPoly.Row) (q : Point) : List Nat := (List.range r.length).filter fun i => SeamNum.on (SeamPoly.at_ r i) (SeamPoly.at_ r (i + 1)) q
def spEdgesAt : Sp := fun vs H Q _ => ∃ (l : Addr) (r : SeamPoly.Row) (v : V) (q : Point), vs = [.ref l, v] ∧ RowL H l r ∧ PtAt H v q ∧ RowFine r ∧ fitsP q = true ∧ ∀ H' p, Same H H' → H p = none → H' p = some (.lst ((rimsR r q).map fun (i : Nat) => V.int i)) → Q (.ref p) H'
theorem scEdgesAt : FnScope ["corners", "point", "whole"] ["corners", "point"] (defScope S_edges_at) := ⟨rfl, rfl, rfl, by decide +kernel, rfl, by decide +kernel, by decide +kernel⟩
theorem ok_edgesAt {f fT : Addr} {fd dT : FuncData} (F : Fn1 K mg "edges_at" S_edges_at ["corners", "point"] f fd) (T : WhT K mg) (T2 : AwT K mg) : FnOk P w K mg base CX0 5 f fd ["corners", "point"] spEdgesAt := by
  refine F.F.ok scEdgesAt (fun vs H Q E h => ?_) (fun cdv A outer s H vs Q E hr h => ?_)
  · obtain ⟨l, r, v, q, rfl, _⟩ := h
    rfl
  obtain ⟨l, r, v, q, rfl, ⟨vs, hl, hp⟩, tq, hr', hq, k⟩ := h
  obtain ⟨fB, dB, FB⟩ := T2.B
  obtain ⟨fW, dW, FW⟩ := T2.W
  obtain ⟨fL, dL, FL⟩ := T2.L
  obtain ⟨fS, fA, fH, dS, dA, dH, TH⟩ := T.hit
  obtain ⟨fF, dF, FA⟩ := T.aft
  obtain ⟨fT, dT, FT⟩ := T.thru
  have okT := ok_thru (P := P) (w := w) (base := base) FT TH FA T.len T.enum
  have hr2 : Room 2 _ := hr.mono (by decide)
  have hr3 : Room 3 _ := hr.mono (by decide)
  refine ⟨_, pss_cons (ps_set (i := 2) scEdgesAt.nd rfl (Or.inl rfl) (pe_call (ok_allW FL FB FW) hr2 rfl FL.m FL.F.kp FL.b .nil pass0 (pa_cons (pe_op op_cat (pv 0) (pe_lst (pa_cons (pv 1) pa_nil))) pa_nil)))
    (pss_one (ps_ret (pe_call okT hr3 rfl FT.m FT.F.kp FT.b .nil pass0 (pa_cons (pe_slice sl_list (pv 2) po_none (po_some (pe_un un_neg pe_int))) (pa_cons (pe_ix ix_list (pv 2) (pe_un un_neg pe_int) (fun _ _ => rfl)) pa_nil))))), ?_⟩
  have elen : vs.length = r.length := Paired.length hp
  have h3 := hr'.three
  have h16 := hr'.most
  have hf := hr'.fits
  refine ⟨_, rfl, _, rfl, by show 1 ≤ sizeLine; decide, fun t ht => ?_⟩
  have s1 : Same H (upd H t (.lst [v])) := same_new ht _
  have e1 : (upd H t (.lst [v])) t = some (.lst [v]) := upd_same
  generalize upd H t (.lst [v]) = H1 at s1 e1 ⊢
  refine ⟨l, t, vs, [v], rfl, rfl, s1 _ _ hl, e1, by rw [sizeLine_eq]; show _ + 1 ≤ _; omega, fun t2 ht2 => ?_⟩
  have s2 := s1.trans (same_new ht2 (.lst (vs ++ [v])))
  have e2 : (upd H1 t2 (.lst (vs ++ [v]))) t2 = some (.lst (vs ++ [v])) := upd_same
  generalize upd H1 t2 (.lst (vs ++ [v])) = H2 at s2 e2 ⊢
  have row2 : RowL H2 t2 (r ++ [q]) := ⟨_, e2, paired_snoc (paired_map (fun _ _ z => z.same s2) hp) (tq.same s2)⟩
  have hf2 : ∀ p ∈ r ++ [q], fitsP p = true := fun p hp => by
    rcases List.mem_append.mp hp with z | z
    · exact hf p z
    · rw [List.mem_singleton.mp z]; exact hq
  have l17 : (r ++ [q]).length ≤ 17 := by rw [List.length_append]; show r.length + 1 ≤ 17; omega
  refine ⟨t2, r ++ [q], rfl, row2, hf2, l17, fun H3 t3 D eD s3 ht3 hW => ?_⟩
  obtain ⟨scR, scS⟩ := row_snoc eD
  have s4 := s2.trans s3
  obtain ⟨ws, e3, pw⟩ := hW
  rw [List.map_append] at pw
  obtain ⟨ws0, a, rfl, pw0, pa⟩ := paired_unsnoc pw
  have db : D.natAbs < 2 ^ 2200 := by rw [eD]; exact below_small hf2 l17
  refine ⟨_, rfl, _, rfl, _, rfl, t3, _, rfl, SqL.of e3, fun t4 ht4 => ?_⟩
  rw [cut_last]
  have s5 := same_new (H := H3) ht4 (.lst ws0)
  have e4 : (upd H3 t4 (.lst ws0)) t4 = some (.lst ws0) := upd_same
  generalize upd H3 t4 (.lst ws0) = H4 at s5 e4 ⊢
  refine ⟨_, rfl, _, rfl, t3, _, _, a, rfl, rfl, SqL.of (s5 _ _ e3), atI_last ws0 a, ?_⟩
  have lm : (r.map (wholeP D)).length = r.length := List.length_map _
  refine ⟨t4, r.map (wholeP D), a, wholeP D q, rfl, ⟨ws0, e4, paired_map (fun _ _ z => z.same s5) pw0⟩, pa.same s5, fun P hP => ?_, wholeP_bits hq db scR.pos, by rw [lm]; omega, by rw [lm]; omega, fun H5 p5 s6 hp5 h5 => ?_⟩
  · obtain ⟨p, hp, rfl⟩ := List.mem_map.mp hP
    exact wholeP_bits (hf p hp) db scR.pos
  · rw [lm, rims_is scR (by omega) scS] at h5
    have s45 := s4.trans s5
    exact k H5 p5 (s45.trans s6) (s45.free hp5) h5
end
end SDP
set_option Elab.async false
set_option linter.all false
set_option maxRecDepth 100000
set_option maxHeartbeats 4000000
set_option exponentiation.threshold 100000
/-! # partners -/
namespace SDP
open PySem PySem.Spec PyProof.Rows L2 SDX SD TL SR
open SeamNum (Bytes fits FINE Point fitsP)
open SeamPattern (Edge Seam)
theorem rimsR_mem {r : SeamPoly.Row} {q : Point} {i : Nat} : i ∈ rimsR r q ↔ i < r.length ∧ SeamNum.on (SeamPoly.at_ r i) (SeamPoly.at_ r (i + 1)) q = true := by
  unfold rimsR
  rw [List.mem_filter, List.mem_range]
theorem rimsR_len (r : SeamPoly.Row) (q : Point) : (rimsR r q).length ≤ r.length := by
  unfold rimsR
  have := List.length_filter_le (fun i => SeamNum.on (SeamPoly.at_ r i) (SeamPoly.at_ r (i + 1)) q) (List.range r.length)
  rw [List.length_range] at this
  exact this
section
variable {P : Program} {w : World} {K : PySem.W.Frag} {mg : Str → Option Value} {base : Heap} {D : PAd} {R : RefAd}
structure PrsT (K : PySem.W.Frag) (mg : Str → Option Value) (P : Program) (base : Heap) (D : PAd) (R : RefAd) (cF : Addr) : Prop where
  Pa : ParT K mg P base D R cF
  P1 : ∃ f d, Fn1 K mg "partner" S_partner ["pattern", "edge", "other", "point"] f d
  S : ∃ f d, SwT K mg D f d
  E : ∃ f d, Fn1 K mg "edges_at" S_edges_at ["corners", "point"] f d
  W : WhT K mg
  A : AwT K mg
def spPartners (D : PAd) (cF : Addr) : Sp := fun vs H Q E => ∃ r pl sl vcs ps ss, ∃ (vx : V) (x : SeamPattern.Place), vs = [.ref r, vx] ∧ PatS D.CT D.CP H r pl sl vcs ps ss ∧ PlAt H vx x ∧ fitsP x.2 = true ∧ SR.PatFine ⟨ps, ss⟩ ∧ x.1 < ps.length ∧
  (∀ H' q us L, Same H H' → H q = none → H' q = some (.lst us) → Paired (PlAt H') us L → (∀ y ∈ L, y ∈ (⟨ps, ss⟩ : SeamPattern.Pattern).touching x ∧ fitsP y.2 = true) → (∀ y ∈ (⟨ps, ss⟩ : SeamPattern.Pattern).touching x, y ∈ L) → L.length ≤ 16 → Q (.ref q) H') ∧
  (∀ y ∈ (⟨ps, ss⟩ : SeamPattern.Pattern).touching x, fitsP y.2 = false → Rs cF E (-6) [])
theorem scPartners : FnScope ["pattern", "place", "found", "index", "edge", "other"] ["pattern", "place"] (defScope S_partners) := ⟨rfl, rfl, rfl, by decide +kernel, rfl, by decide +kernel, by decide +kernel⟩
theorem ok_partners {cF : Addr} (T : PrsT K mg P base D R cF) {f : Addr} {fd : FuncData} (F : Fn1 K mg "partners" S_partners ["pattern", "place"] f fd) : FnOk P w K mg base (L2N.CX P w) 36 f fd ["pattern", "place"] (spPartners D cF) := by
  refine okN F.F scPartners (fun vs H Q E h => ?_) (fun cdv A0 outer s H vs Q E hr h => ?_)
  · obtain ⟨r, pl, sl, vcs, ps, ss, vx, x, rfl, _⟩ := h
    rfl
  obtain ⟨r, pl, sl, vcs, ps, ss, vx, x, rfl, S, ⟨ax, vp, rfl, hax, hvp⟩, fx, PF, xl, good, bad⟩ := h
  have hr1 : Room 1 _ := hr.mono (by decide)
  have hr5 : Room 5 _ := hr.mono (by decide)
  obtain ⟨_, _, FP⟩ := T.P1
  obtain ⟨_, _, FS⟩ := T.S
  obtain ⟨_, _, FE⟩ := T.E
  obtain ⟨fT, dT, FT⟩ := T.W.thru
  have C := T.Pa.E.C
  have okP := ok_partner (w := w) T.Pa FP
  refine ⟨_, pss_cons (ps_set (i := 2) scPartners.nd rfl (Or.inl rfl) (pe_lst pa_nil))
    (pss_cons (ps_for (passes_of rfl) rfl (pi_list (pe_call (ok_edgesAt (fT := fT) (dT := dT) FE T.W T.A) hr5 rfl FE.m FE.F.kp FE.b .nil pass0 (pa_cons (pe_fld (pe_ix ix_list (pe_fld (pv 0) rfl) (pe_ix ix_tup (pv 1) pe_int (fun _ _ => rfl)) (fun _ _ => rfl)) rfl) (pa_cons (pe_ix ix_tup (pv 1) pe_int (fun _ _ => rfl)) pa_nil)))) (pg_name (i := 3) scPartners.nd rfl (Or.inl rfl))
      (pss_cons (ps_set (i := 4) scPartners.nd rfl (Or.inl rfl) (pe_tup (pa_cons (pe_ix ix_tup (pv 1) pe_int (fun _ _ => rfl)) (pa_cons (pv 3) pa_nil))))
      (pss_cons (ps_set (i := 5) scPartners.nd rfl (Or.inl rfl) (pe_meth (pv 0) C.clT FS.S.m (ok_sewnTo FS) hr1 FS.S.b .nil pass0 (pa_cons (pv 4) pa_nil)))
      (pss_one (ps_if (pt_cmpR op_notN (pv 5) pe_non (nomark _)) (pss_one (ps_expr (pe_bm PySem.F.plainAttrs_list PySem.F.slot_list_append PySem.F.type_list_append mt_append (pv 2) (pa_cons (pe_call okP hr rfl FP.m FP.F.kp FP.b .nil passN (pa_cons (pv 0) (pa_cons (pv 4) (pa_cons (pv 5) (pa_cons (pe_ix ix_tup (pv 1) pe_int (fun _ _ => rfl)) pa_nil))))) pa_nil)))) pss_nil)))))
    (pss_one (ps_ret (pv 2)))), ?_⟩
  obtain ⟨dx, ei⟩ := S.ins
  obtain ⟨p, hp⟩ : ∃ p, ps[x.1]? = some p := ⟨_, List.getElem?_eq_getElem xl⟩
  have er := row_is (ss := ss) hp
  have rf : SR.RowFine p.row := by
    have := PF.rows x.1 xl
    rw [er] at this
    exact this
  obtain ⟨v, cl, gv, b, dx2, g, rfl, eb, hg, hrow⟩ := pat_at S hp
  have hfit : ∀ q ∈ ps, ∀ c ∈ q.row, fitsP c = true := fun q hq => by
    obtain ⟨i, hi, rfl⟩ := List.mem_iff_getElem.mp hq
    have := (PF.rows i hi).fits
    rw [row_is (ss := ss) (List.getElem?_eq_getElem hi)] at this
    exact this
  refine ⟨by show 0 ≤ sizeLine; decide, fun Fl hFl => ?_⟩
  have s0 : Same H (upd H Fl (.lst [])) := same_new hFl _
  have h0 : (upd H Fl (.lst [])) Fl = some (.lst []) := upd_same
  generalize upd H Fl (.lst []) = H0 at s0 h0 ⊢
  refine ⟨_, rfl, r, D.CT, dx, _, _, rfl, s0 _ _ ei, C.clT, C.nTp, rfl, _, rfl, ax, _, 0, .int x.1, rfl, rfl, SqT.of (s0 _ _ hax), atI_nat (j := 0) rfl, pl, _, _, .ref b, rfl, rfl, SqL.of (s0 _ _ S.pcs), atI_nat (j := x.1) gv, b, D.CP, dx2, _, _, rfl, s0 _ _ eb, C.clP, C.nPc, rfl, _, rfl, ax, _, 1, vp, rfl, rfl, SqT.of (s0 _ _ hax), atI_nat (j := 1) rfl, ?_⟩
  have hrow0 : RowL H0 cl p.row := by
    obtain ⟨cvs, e1, e2⟩ := hrow
    exact ⟨cvs, s0 _ _ e1, paired_map (fun _ _ z => z.same s0) e2⟩
  refine ⟨cl, p.row, vp, x.2, rfl, hrow0, hvp.same s0, rf, fx, fun H1 ql s1 hql h1 => ?_⟩
  have s01 := s0.trans s1
  refine ⟨ql, rfl, ⟨_, SqL.of h1⟩, ?_⟩
  have l16 : (rimsR p.row x.2).length ≤ 16 := Nat.le_trans (rimsR_len _ _) rf.most
  have nqF : ql ≠ Fl := fun z => by rw [z, h0] at hql; cases hql
  have lm : ((rimsR p.row x.2).map fun (i : Nat) => V.int i).length = (rimsR p.row x.2).length := List.length_map _
  refine for_list (xs := (rimsR p.row x.2).map fun (i : Nat) => V.int i) (fun j σ H' => ∃ us L, (∃ o3 o4 o5, σ = [some (.ref r), some (.ref ax), some (.ref Fl), o3, o4, o5]) ∧ Same H H' ∧ H' ql = some (.lst ((rimsR p.row x.2).map fun (i : Nat) => V.int i)) ∧ H' Fl = some (.lst us) ∧ Paired (PlAt H') us L ∧
      (∀ y ∈ L, y ∈ (⟨ps, ss⟩ : SeamPattern.Pattern).touching x ∧ fitsP y.2 = true) ∧ (∀ i ∈ (rimsR p.row x.2).take j, ∀ f, mateL ss (x.1, i) = some f → ∃ t y, SR.Over ⟨ps, ss⟩ x y (x.1, i) f t ∧ y ∈ L) ∧ L.length ≤ j)
    ⟨[], [], ⟨_, _, _, rfl⟩, s01, h1, s1 _ _ h0, .nil, by simp, by simp, Nat.zero_le _⟩ (fun j σ H' _ ⟨_, _, _, _, z, _⟩ => SqL.of z) (fun j v σ H2 hj ⟨us, L, ⟨o3, o4, o5, eσ⟩, s2, hq2, hF2, hp2, i1, i2, i3⟩ => ?_) (fun σ H2 ⟨us, L, ⟨o3, o4, o5, eσ⟩, s2, hq2, hF2, hp2, i1, i2, i3⟩ => ?_)
  · subst eσ
    rw [List.getElem?_map] at hj
    cases hi : (rimsR p.row x.2)[j]? with
    | none => rw [hi] at hj; cases hj
    | some i =>
    rw [hi] at hj
    obtain rfl : V.int (i : Int) = v := Option.some.inj hj
    have jl : j < (rimsR p.row x.2).length := (List.getElem?_eq_some_iff.mp hi).1
    obtain ⟨il, ion⟩ := rimsR_mem.mp (List.mem_of_getElem? hi)
    have il' : i < ((⟨ps, ss⟩ : SeamPattern.Pattern).row x.1).length := by rw [er]; exact il
    refine ⟨_, rfl, ax, _, 0, .int x.1, rfl, rfl, SqT.of (s2 _ _ hax), atI_nat (j := 0) rfl, _, rfl, by show 2 ≤ sizeLine; decide, fun te hte => ?_⟩
    have s3 := same_new hte (.tup [.int (x.1 : Int), .int (i : Int)])
    have h3 : (upd H2 te (.tup [.int (x.1 : Int), .int (i : Int)])) te = some (two x.1 i) := upd_same
    generalize upd H2 te (.tup [.int (x.1 : Int), .int (i : Int)]) = H3 at s3 h3 ⊢
    have s23 := s2.trans s3
    have hed : EdAt H3 (.ref te) (x.1, i) := ⟨te, rfl, h3⟩
    refine ⟨_, rfl, r, dx, _, rfl, s23 _ _ ei, rfl, _, rfl, r, pl, sl, vcs, ps, ss, .ref te, (x.1, i), rfl, S.same s23, hed, fun f hf H4 vf s4 hvf => ?_, fun hf H4 s4 => ?_⟩
    · have s24 := s23.trans s4
      have hnf : decide (vf = V.non) = false := by
        obtain ⟨a, rfl, _⟩ := hvf
        rfl
      have mt : (⟨ps, ss⟩ : SeamPattern.Pattern).partner (x.1, i) = some f := hf
      obtain ⟨_, lf, _, _⟩ := SR.mated PF mt
      have hne : fromOf ⟨ps, ss⟩ (x.1, i) ≠ toOf ⟨ps, ss⟩ (x.1, i) := (PF.rows x.1 xl).apart i
      have ion' : SeamNum.on (fromOf ⟨ps, ss⟩ (x.1, i)) (toOf ⟨ps, ss⟩ (x.1, i)) x.2 = true := by
        show SeamNum.on (SeamPoly.at_ ((⟨ps, ss⟩ : SeamPattern.Pattern).row x.1) i) (SeamPoly.at_ ((⟨ps, ss⟩ : SeamPattern.Pattern).row x.1) (i + 1)) x.2 = true
        rw [er]
        exact ion
      obtain ⟨t, t0, t1, et⟩ := (on_part hne).mp ion'
      have ov : SR.Over ⟨ps, ss⟩ x (f.1, SeamNum.part (toOf ⟨ps, ss⟩ f) (fromOf ⟨ps, ss⟩ f) t) (x.1, i) f t := ⟨mt, rfl, t0, t1, et, rfl⟩
      have tm := (SR.touch_mem PF x _).mpr ⟨_, _, _, ov⟩
      have fl4 := s4 _ _ (s3 _ _ hF2)
      refine ⟨_, rfl, rfl, _, rfl, ?_⟩
      rw [hnf]
      refine iteT ⟨_, rfl, .inl ⟨rfl, _, SqL.of fl4⟩, _, rfl, _, rfl, _, rfl, _, rfl, ax, _, 1, vp, rfl, rfl, SqT.of (s24 _ _ hax), atI_nat (j := 1) rfl, ?_⟩
      refine ⟨r, pl, sl, vcs, ps, ss, .ref te, vf, vp, (x.1, i), f, x.2, t, rfl, S.same s24, Tw.same hed s4, hvf, hvp.same s24, fx, hfit, il', lf, hne, et, fun hfy H5 q s5 hq5 => ?_, fun hfy => bad _ tm hfy⟩
      have fl5 := s5 _ _ fl4
      have lu : us.length = L.length := Paired.length hp2
      refine ⟨Fl, _, _, rfl, rfl, fl5, by rw [lu, sizeLine_eq]; omega, ?_⟩
      have s25 := s24.trans s5
      have kp : Kp [Fl] H5 (upd H5 Fl (.lst (us ++ [.ref q]))) := Kp.put fl5 rfl (by simp)
      refine ⟨us ++ [.ref q], L ++ [_], ⟨_, _, _, rfl⟩, fun b o hb => ?_, kp _ _ (s5 _ _ (s4 _ _ (s3 _ _ hq2))) (.inl (by simp [nqF])), upd_same, paired_snoc (paired_map (fun _ _ z => (((z.same s3).same s4).same s5).kp kp) hp2) (hq5.kp kp), fun y hy => ?_, fun k hk f' hf' => ?_, by rw [List.length_append]; show L.length + 1 ≤ j + 1; omega⟩
      · rw [upd_ne (ne_of_none hb hFl)]
        exact s25 b o hb
      · rcases List.mem_append.mp hy with z | z
        · exact i1 y z
        · rw [List.mem_singleton.mp z]
          exact ⟨tm, hfy⟩
      · rw [List.take_add_one, hi] at hk
        rcases List.mem_append.mp hk with z | z
        · obtain ⟨t', y, o, m⟩ := i2 k z f' hf'
          exact ⟨t', y, o, List.mem_append_left _ m⟩
        · have ek : k = i := by simpa using z
          subst ek
          rw [hf] at hf'
          cases hf'
          exact ⟨t, _, ov, List.mem_append_right _ (by simp)⟩
    · refine ⟨_, rfl, rfl, _, rfl, iteF ?_⟩
      have s24 := s23.trans s4
      refine ⟨us, L, ⟨_, _, _, rfl⟩, s24, s4 _ _ (s3 _ _ hq2), s4 _ _ (s3 _ _ hF2), paired_map (fun _ _ z => (z.same s3).same s4) hp2, i1, fun k hk f' hf' => ?_, by omega⟩
      rw [List.take_add_one, hi] at hk
      rcases List.mem_append.mp hk with z | z
      · exact i2 k z f' hf'
      · have ek : k = i := by simpa using z
        subst ek
        rw [hf] at hf'
        cases hf'
  · subst eσ
    rw [lm, List.take_length] at i2
    rw [lm] at i3
    refine ⟨_, rfl, good H2 Fl us L s2 hFl hF2 hp2 i1 (fun y hy => ?_) (by omega)⟩
    obtain ⟨e, f, t, o⟩ := (SR.touch_mem PF x y).mp hy
    obtain ⟨e1, e2⟩ := e
    have he : x.1 = e1 := o.here
    subst he
    obtain ⟨le, _, _, _⟩ := SR.mated PF o.mates
    have le' : e2 < p.row.length := by rw [← er]; exact le
    have hne : fromOf ⟨ps, ss⟩ (x.1, e2) ≠ toOf ⟨ps, ss⟩ (x.1, e2) := (PF.rows x.1 xl).apart e2
    have hon := (on_part hne).mpr ⟨t, o.low, o.high, o.place⟩
    have hm : e2 ∈ rimsR p.row x.2 := rimsR_mem.mpr ⟨le', by rw [← er]; exact hon⟩
    obtain ⟨t', y', o', m'⟩ := i2 e2 hm f o.mates
    have et : t' = t := SR.part_inj hne (by rw [← o'.place, ← o.place])
    subst et
    have ey : y = y' := by rw [o.other, o'.other]
    rw [ey]
    exact m'
end
end SDP
set_option Elab.async false
set_option linter.all false
set_option maxRecDepth 100000
set_option maxHeartbeats 4000000
/-! # sorted(xs, key=f): f a function of the program, what it makes is tracked -/
namespace SDX
open PySem PySem.Spec PyProof.Rows L2 PySem.W
section
variable {X : Cx} {pins : List (Addr × Obj)} {σ : L2.St} {H : Hp} {s : Shared}
/-- a is laid in this frame, by none told -/
structure Fresh (X : Cx) (pins : List (Addr × Obj)) (a : Addr) : Prop where
  new : X.s_0.heap.objs.size ≤ a
  loc : a ≠ X.env.locals
  cell : ∀ x c, X.env.cells.lookup x = some c → c ≠ a
  pin : ∀ p ∈ X.pn ++ pins, p.1 ≠ a
theorem fresh_of {a : Addr} (I : Inv X pins σ H s) (h : s.heap.objs.size ≤ a) : Fresh X pins a := by
  have lt : ∀ {b : Addr} {o : Obj}, s.heap.get? b = some o → b ≠ a := fun e z => by
    have := Heap.lt_size e
    rw [z] at this
    exact absurd (Nat.lt_of_lt_of_le this h) (Nat.lt_irrefl _)
  refine ⟨Nat.le_trans I.sz h, fun z => ?_, fun x c e => ?_, fun p hp => lt (I.pin p hp).1⟩
  · have := I.lt
    rw [← z] at this
    exact absurd (Nat.lt_of_lt_of_le this h) (Nat.lt_irrefl _)
  · obtain ⟨v, o, ho, _⟩ := I.cell x c e
    exact lt ho
theorem fresh_fr {a : Addr} (I : Inv X pins σ H s) (h : s.heap.objs.size ≤ a) : a ∉ frs X.stack := fun z => by
  rcases List.mem_cons.mp (I.stkSub _ z) with e | e
  · have := I.lt
    rw [← e] at this
    exact absurd (Nat.lt_of_lt_of_le this h) (Nat.lt_irrefl _)
  · exact I.nofs h e
/-- objects that nobody tracks are written -/
theorem inv_touch {h' : Heap} {t' : Nat} {ch : List Addr} (I : Inv X pins σ H s) (nw : ∀ b ∈ ch, Fresh X pins b ∧ H b = none) (k : ∀ b o, b ∉ ch → s.heap.get? b = some o → h'.get? b = some o) : Inv X pins σ H { s with heap := h', toks := t' } := by
  have nch : ∀ {b u}, H b = some u → b ∉ ch := fun e z => by rw [(nw _ z).2] at e; cases e
  refine I.step (g' := s.gens) (d' := s.drawn) (ch := ch) (fun b hb => ⟨.inr (nw b hb).1.new, (nw b hb).1.loc, (nw b hb).1.cell, (nw b hb).1.pin⟩) (fun b o _ _ hb e _ => k b o hb e) (fun b o _ _ hb e _ => ⟨o.slots, k b o hb e⟩)
    (fun b o _ _ n => n) (fun b o hb e => ⟨o, k b o hb e⟩) (fun b xs e => e) (fun b o u e => e) (fun b ps e => ⟨#[], by simpa using e⟩) (fun m hn => ?_) (fun b u e => ?_) I.bare
  · obtain ⟨ob, es, ep, ho, r⟩ := hn
    exact ⟨ob, es, ep, k _ ob (fun z => (nw _ z).1.loc rfl) ho, r⟩
  · refine (I.hok b u e).stay (fun d v hd q => k d v ?_ q) (fun d q => q) fun d xs q => q
    rcases hd with z | z
    · rw [z]
      exact nch e
    · exact nch z
/-- an object that nobody tracked is tracked -/
theorem inv_track {a : Addr} {o : HO} (I : Inv X pins σ H s) (F : Fresh X pins a) (n : H a = none) (new : ObjOk X.prog X.w (upd H a o) s.heap a o) : Inv X pins σ (upd H a o) s := by
  have ne : ∀ {b u}, H b = some u → b ≠ a := fun e z => by rw [z, n] at e; cases e
  have J := I.step (H' := upd H a o) (h' := s.heap) (t' := s.toks) (g' := s.gens) (d' := s.drawn) (ch := [a]) (fun b hb => by
      rw [List.mem_singleton.mp hb]
      exact ⟨.inr F.new, F.loc, F.cell, F.pin⟩) (fun b o _ _ _ e _ => e) (fun b o _ _ _ e _ => ⟨o.slots, e⟩)
    (fun b o hb _ n => by rw [upd_ne (by simpa using hb)]; exact n) (fun b o _ e => ⟨o, e⟩) (fun b xs e => by rw [upd_ne (ne e)]; exact e) (fun b o u e => by rw [upd_ne (ne e)]; exact e) (fun b ps e => ⟨#[], by rw [upd_ne (ne e)]; simpa using e⟩) (fun m hn => hn)
    (I.hok.laidN (fun b u e => e) n new) I.bare
  exact J
theorem each_rel {β : Type} {R : V → β → Prop} : ∀ {xs : List V} {bs : List β} {its : List Value}, Paired R xs bs → Vals xs its → EachIs (fun v x => ∃ y, L2.RelV y v ∧ R y x) its bs
  | _, _, _, .nil, .nil => .nil
  | _, _, _, .cons r t, .cons v u => .cons ⟨_, v, r⟩ (each_rel t u)
theorem rel_each {β : Type} {R : V → β → Prop} : ∀ {bs : List β} {its : List Value}, EachIs (fun v x => ∃ y, L2.RelV y v ∧ R y x) its bs → ∃ xs, Vals xs its ∧ Paired R xs bs
  | _, _, .nil => ⟨[], .nil, .nil⟩
  | _, _, .cons ⟨y, v, r⟩ t => by
    obtain ⟨xs, a, b⟩ := rel_each t
    exact ⟨y :: xs, .cons v a, .cons r b⟩
theorem dps_each {β : Type} {k : β → PyData} (I : Inv X pins σ H s) : ∀ {ys : List V} {bs : List β} {us : List Value}, Paired (fun v x => Dp X.K H v (k x)) ys bs → Vals ys us → EachIs (fun v d => ∃ as, Reads s.heap v d as) us (bs.map k)
  | _, _, _, .nil, .nil => .nil
  | _, _, _, .cons r t, .cons v u => .cons (Dp.reads I _ _ _ r v) (dps_each I t u)
theorem p13_snoc {α β : Type} {R : α → β → Prop} {l : List α} {m : List β} {a : α} {b : β} (p : Paired R l m) (r : R a b) : Paired R (l ++ [a]) (m ++ [b]) := by
  induction p with
  | nil => exact .cons r .nil
  | cons h _ ih => exact .cons h ih
theorem p13_map {α β : Type} {R S : α → β → Prop} {l : List α} {m : List β} (f : ∀ a b, R a b → S a b) (p : Paired R l m) : Paired S l m := by
  induction p with
  | nil => exact .nil
  | cons h _ ih => exact .cons (f _ _ h) ih
theorem v13_snoc {l : List V} {m : List Value} {a : V} {b : Value} (p : Vals l m) (r : L2.RelV a b) : Vals (l ++ [a]) (m ++ [b]) := by
  induction p with
  | nil => exact .cons r .nil
  | cons h _ ih => exact .cons h ih
theorem p13_at {α β : Type} {R : α → β → Prop} {xs : List α} {bs : List β} (r : Paired R xs bs) {j : Nat} {y : α} (h : xs[j]? = some y) : ∃ x, bs[j]? = some x ∧ R y x := by
  induction r generalizing j with
  | nil => simp at h
  | cons v t ih =>
    cases j with
    | zero => exact ⟨_, rfl, by simp at h; rw [← h]; exact v⟩
    | succ j => exact ih (by simpa using h)
theorem v13_at {xs : List V} {us : List Value} (r : Vals xs us) {j : Nat} {u : Value} (h : us[j]? = some u) : ∃ x, xs[j]? = some x ∧ L2.RelV x u := by
  induction r generalizing j with
  | nil => simp at h
  | cons v t ih =>
    cases j with
    | zero => exact ⟨_, rfl, by simp at h; rw [← h]; exact v⟩
    | succ j => exact ih (by simpa using h)
theorem dp_same {K : PySem.W.Frag} {H H' : Hp} (sm : ∀ b o, H b = some o → H' b = some o) : ∀ (d : PyData) (v : V), Dp K H v d → Dp K H' v d := by
  intro d v h
  refine Dp.rec (motive_1 := fun v d _ => Dp K H' v d) (motive_2 := fun vs ds _ => DpAll K H' vs ds) .non .bl .int .str (fun hs _ ih => .lst ?_ ih) (fun hs _ ih => .tup ?_ ih) .nil (fun _ _ a b => .cons a b) h
  · rcases hs with z | z
    · exact .inl (z.imp (fun q => sm _ _ q) fun ⟨o, q⟩ => ⟨o, sm _ _ q⟩)
    · exact .inr z
  · rcases hs with z | z
    · exact .inl (z.imp (fun q => sm _ _ q) fun ⟨o, q⟩ => ⟨o, sm _ _ q⟩)
    · exact .inr z
/-- sorted(xs, key=f) -/
theorem sorted_key_run {β : Type} {R : V → β → Prop} {k : β → PyData} {bs : List β} {xs : List V} {l f : Addr} {of : Obj} {Q : VK} (I : Inv X pins σ H s) (hs : SqL X.K H l xs) (hp : Paired R xs bs) (hal : AllAlike (bs.map k)) (hk : Sortable (bs.map k)) (hu : ∀ x ∈ bs, X.A.units + 2 + (k x).depth < cLine)
    (hf : s.heap.get? f = some of) (hfn : H f = none) (hfr : f ∉ frs X.stack)
    (turn : ∀ (y : V) (x : β) (v : Value) (s' : Shared) (H' : Hp), R y x → x ∈ bs → L2.RelV y v → Inv X pins σ H' s' → (∀ b o, H b = some o → H' b = some o) → s'.heap.get? f = some of →
      codeAny (model X.prog X.w) X.A.in1.in1 (.call (.ref f) ⟨[v], []⟩) (L2.CR C8.CX0 X.stack X.prog X.w H' s' (fun z H2 => (∀ b o, H' b = some o → H2 b = some o) ∧ Dp X.K H2 z (k x)) C8.E0) s')
    (q : ∀ (H' : Hp) (p : Addr) (ys : List V), H' p = some (.lst ys) → (∀ b o, H b = some o → H' b = some o) → Paired R ys (bs.mergeSort (dataLe false k)) → Q (.ref p) H') :
    wpAny (model X.prog X.w) X.A (call (.builtin "sorted") [.ref l] [(Str.ofString "key", .ref f)]) (EP X pins σ Q) X.xe s := by
  obtain ⟨its, rv, hl, hz⟩ := I.list hs
  have e : EachIs (fun v x => ∃ y, L2.RelV y v ∧ R y x) its bs := each_rel hp rv
  have lx : xs.length = its.length := rv.length
  have lb : its.length = bs.length := e.length
  have hZ : its.length ≤ sizeLine := by rw [← lx]; exact hz
  refine sorted_of_sort hl.isList hZ (ksk_s1 _ _) (fun _ => ksk_l1 _ _) fun E' => ?_
  rw [ksk_t1]
  have ho := copyHeap_at s.heap its
  have gC : ∀ b o, s.heap.get? b = some o → (copyHeap s.heap its).get? b = some o := fun b o => copyHeap_old
  obtain ⟨a, ea⟩ : ∃ a, a = s.heap.objs.size + 1 := ⟨_, rfl⟩
  rw [← ea] at ho ⊢
  have ha : a < (copyHeap s.heap its).objs.size := Heap.lt_size ho
  have an : s.heap.objs.size ≤ a := by rw [ea]; exact Nat.le_succ _
  obtain ⟨e1, ho1⟩ : ∃ e1, ((copyHeap s.heap its).update a (Obj.mapSeq fun _ => (#[] : Array Value))).get? a = some (seqObj "list" #[] e1) := ⟨_, get?_update_seq ho fun _ => #[]⟩
  obtain ⟨kS, eK⟩ : ∃ kS, kS = (((copyHeap s.heap its).update a (Obj.mapSeq fun _ => (#[] : Array Value))).push (seqObj "tuple" its.toArray 0)).objs.size := ⟨_, rfl⟩
  have hkS : kS = (copyHeap s.heap its).objs.size + 1 := by rw [eK, size_push', Heap.size_update]
  unfold ksk_tree
  refine wpAny_bind (listItems_at ho rfl ?_)
  refine wpAny_bind (listUpdate_at ho rfl ?_ (by rw [List.size_toArray]; exact hZ) (Nat.zero_le _))
  refine wpAny_bind (seqEpoch_at ho1 rfl ?_)
  refine wpAny_bind (wpAny_newTuple ?_ (by show its.length ≤ _; exact hZ))
  refine wpAny_bind (wpAny_newList ?_ (Nat.zero_le _))
  refine wpAny_holding ?_
  have hka : kS ≠ a := by rw [hkS]; exact Nat.ne_of_gt (Nat.lt_succ_of_lt ha)
  have kn : s.heap.objs.size ≤ kS := by
    rw [hkS]
    exact Nat.le_trans (Nat.le_trans an (Nat.le_of_lt ha)) (Nat.le_succ _)
  have Fa := fresh_of I an
  have Fk := fresh_of I kn
  have ra := fresh_fr I an
  have rk := fresh_fr I kn
  have na : H a = none := I.hok.fresh an
  have nk : H kS = none := I.hok.fresh kn
  have g2 : ∀ b o, s.heap.get? b = some o → (((((copyHeap s.heap its).update a (Obj.mapSeq fun _ => (#[] : Array Value))).push (seqObj "tuple" its.toArray 0)).push (seqObj "list" #[] 0))).get? b = some o := fun b o z =>
    Heap.get?_push_of_some _ (Heap.get?_push_of_some _ ((Heap.get?_update_ne _ _ _ _ (by rw [ea]; exact Nat.ne_of_lt (Nat.lt_succ_of_lt (Heap.lt_size z)))).trans (gC b o z)))
  have h2a : (((((copyHeap s.heap its).update a (Obj.mapSeq fun _ => (#[] : Array Value))).push (seqObj "tuple" its.toArray 0)).push (seqObj "list" #[] 0))).get? a = some (seqObj "list" #[] e1) := Heap.get?_push_of_some _ (Heap.get?_push_of_some _ ho1)
  have h2k : (((((copyHeap s.heap its).update a (Obj.mapSeq fun _ => (#[] : Array Value))).push (seqObj "tuple" its.toArray 0)).push (seqObj "list" #[] 0))).get? kS = some (seqObj "list" #[] 0) := by
    rw [eK]
    exact Heap.get?_push_size _ rfl
  rw [← eK]
  generalize ((((copyHeap s.heap its).update a (Obj.mapSeq fun _ => (#[] : Array Value))).push (seqObj "tuple" its.toArray 0)).push (seqObj "list" #[] 0)) = h2 at g2 h2a h2k ⊢
  unfold ksk_rest
  refine wpAny_bind (wpAny_rule ?_)
  first
    | rw [List.forIn_toArray]
    | (rw [← Array.forIn_toList]; simp only [List.toList_toArray])
    | rw [← Array.forIn_toList]
  refine wpAny_bind (ksk_fold (fun i s' => ∃ H' kA ys e, Inv X pins σ H' s' ∧ (∀ b o, H b = some o → H' b = some o) ∧ s'.heap.get? f = some of ∧ H' f = none ∧ s'.heap.get? kS = some (seqObj "list" kA e) ∧ H' kS = none ∧ s'.heap.get? a = some (seqObj "list" #[] e1) ∧ H' a = none ∧
      Vals ys kA.toList ∧ Paired (fun v x => Dp X.K H' v (k x)) ys (bs.take i)) its 0 _
    ⟨H, #[], [], 0, I.kept g2, fun b o z => z, g2 _ _ hf, hfn, h2k, nk, h2a, na, .nil, by rw [List.take_zero]; exact .nil⟩ ?step ?done)
  case step =>
    rintro j v s' hv ⟨H', kA, ys, e0, I', S', f', fn', k', kn', a', an', rv', hp'⟩
    simp only [Nat.zero_add] at hp' ⊢
    have hj : j < its.length := (List.getElem?_eq_some_iff.mp hv).1
    obtain ⟨y, hy, ry⟩ := v13_at rv hv
    obtain ⟨x, hx, rx⟩ := p13_at hp hy
    have lk : kA.size = j := by
      have h1 := hp'.length
      have h2 : ys.length = kA.size := by rw [← Array.length_toList]; exact rv'.length
      rw [List.length_take] at h1
      omega
    refine wpAny_bind (wpAny_attempt (wpAny_call (codeAny_mono (turn y x v s' H' rx (List.mem_of_getElem? hx) ry I' S' f') fun r s'' hq => ?_)))
    cases r with
    | error e => exact (show False from hq).elim
    | ok fl =>
      cases fl with
      | next => exact False.elim hq
      | brk => exact False.elim hq
      | cont => exact False.elim hq
      | ret u =>
        obtain ⟨z, H2, os, bare, un, hok, rz, S2, dz⟩ := hq
        obtain ⟨hh, g, d, t, os'⟩ := s''
        obtain rfl : os' = s'.os := os
        have I2 : Inv X pins σ H2 { s' with heap := hh, gens := g, drawn := d, toks := t } := I'.call (h' := hh) (g' := g) (d' := d) (t' := t) (ch := []) un hok bare (fun b z => absurd z (by simp))
        have f2 : hh.get? f = some of := un.keep _ _ f' fn' hfr (by simp)
        have fn2 : H2 f = none := un.free _ _ f' fn' (by simp)
        have k2 : hh.get? kS = some (seqObj "list" kA e0) := un.keep _ _ k' kn' rk (by simp)
        have kn2 : H2 kS = none := un.free _ _ k' kn' (by simp)
        have a2 : hh.get? a = some (seqObj "list" #[] e1) := un.keep _ _ a' an' ra (by simp)
        have an2 : H2 a = none := un.free _ _ a' an' (by simp)
        try dsimp only
        have s1 := Heap.SameBut.update hh kS (Obj.mapSeq (·.push u))
        obtain ⟨c2, hc2⟩ : ∃ c2, (hh.update kS (Obj.mapSeq (·.push u))).get? kS = some (seqObj "list" (kA.push u) c2) := ⟨_, get?_update_seq k2 (·.push u)⟩
        have ek : bs.take (j + 1) = bs.take j ++ [x] := by rw [List.take_add_one, hx]; simp
        have ea2 : (kA.push u).toList = kA.toList ++ [u] := by simp
        have hz2 : kA.size ≤ sizeLine := by omega
        have fk : f ≠ kS := fun z => by
          rw [z] at hf
          exact absurd (Nat.lt_of_lt_of_le (Heap.lt_size hf) kn) (Nat.lt_irrefl _)
        refine wpAny_bind (listUpdate_at k2 rfl ?_ hz2 (Nat.le_trans (Nat.le_of_eq (Array.size_push ..)) (Nat.succ_le_succ hz2)))
        refine wpAny_pure ⟨rfl, H2, kA.push u, ys ++ [z], c2, inv_touch (ch := [kS]) I2 (fun b hb => by rw [List.mem_singleton.mp hb]; exact ⟨Fk, kn2⟩) (fun b o hb e => (s1.2 b (by simpa using hb)).trans e), fun b o q => S2 b o (S' b o q), (s1.2 f fk).trans f2, fn2, hc2, kn2, (s1.2 a hka.symm).trans a2, an2, ?_, ?_⟩
        · rw [ea2]
          exact v13_snoc rv' rz
        · rw [ek]
          exact p13_snoc (p13_map (fun v x q => dp_same S2 _ _ q) hp') dz
  case done =>
    rintro s' ⟨H', kA, ys, e0, I', S', f', fn', k', kn', a', an', rv', hp'⟩
    have eb : bs.take (0 + its.length) = bs := List.take_of_length_le (by omega)
    rw [eb] at hp'
    have hk' := dps_each I' hp' rv'
    have hsz : kA.size = its.length := by
      have h1 := hp'.length
      have h2 : ys.length = kA.size := by rw [← Array.length_toList]; exact rv'.length
      omega
    try dsimp only
    refine wpAny_bind (listItems_at k' rfl ?_)
    obtain ⟨G, G1, G2⟩ := restrict s'.heap fun b => decide (b ≠ kS)
    have gk : ∀ b o, b ≠ kS → s'.heap.get? b = some o → G.get? b = some o := fun b o hb e => by
      rw [G1 b (decide_eq_true hb)]
      exact e
    have gs : ∀ b o, G.get? b = some o → s'.heap.get? b = some o := fun b o e => by
      by_cases hb : b = kS
      · rw [hb, G2 kS (by simp)] at e
        cases e
      · rw [← G1 b (decide_eq_true hb)]
        exact e
    refine keyH_end (κ := dataKind s'.heap (bs.map k)) (h₁ := G) (fun b o _ e => gs b o e) (G2 kS (by simp)) k' a' hka (SortsAt.data (s := s') hk' hal hk (bound_map (A := X.A.in1.in1) hu)) hsz hZ fun h3 tk3 c k3 n3 => ⟨rfl, ?_⟩
    have ko : KeyedOut false (bs.map k) its (sortVals (dataKind s'.heap (bs.map k)) false kA.toList its) := ⟨s'.heap, kA.toList, hal, rfl, hk'⟩
    have each := keyedOut_each k ko e
    have lo : (sortVals (dataKind s'.heap (bs.map k)) false kA.toList its).length = its.length := ko.length (by rw [List.length_map]; exact lb.symm)
    generalize sortVals (dataKind s'.heap (bs.map k)) false kA.toList its = out at each lo n3
    obtain ⟨zs, rz, pz⟩ := rel_each each
    have I3 : Inv X pins σ H' { s' with heap := h3, toks := tk3 } := inv_touch (ch := [kS, a]) I' (fun b hb => by
      rcases List.mem_cons.mp hb with q | q
      · rw [q]
        exact ⟨Fk, kn'⟩
      · rw [List.mem_singleton.mp q]
        exact ⟨Fa, an'⟩) (fun b o hb e => k3 b o (fun z => hb (by simp [z])) (gk b o (fun z => hb (by simp [z])) e))
    have I4 := inv_track (o := .lst zs) I3 Fa an' ⟨by rw [rz.length, lo]; exact hZ, out, c, rz, n3⟩
    refine ⟨.ref a, _, I4, rfl, q _ a zs upd_same (fun b o e => ?_) pz⟩
    rw [upd_ne (ne_of_none e na)]
    exact S' b o e
end
end SDX
set_option Elab.async false
set_option linter.all false
set_option maxRecDepth 100000
set_option maxHeartbeats 4000000
/-! # sorted(xs, key=lambda p: ..), the lambda made here, names captured -/
namespace SDX
open PySem PySem.Spec PyProof.Rows L2 PySem.W LamX NdefX
theorem sql_ext {K : PySem.W.Frag} {H H' : Hp} {l : Addr} {xs : List V} (h : SqL K H l xs) (e : ExtN H H') : SqL K H' l xs := by
  rcases h with z | z
  · refine .inl (z.imp (fun q => e _ _ q fun ps z => by cases z) fun ⟨o, q⟩ => ⟨o, e _ _ q fun ps z => by cases z⟩)
  · exact .inr z
/-- a lambda's environment as a nested def's -/
abbrev lamF (X : Cx) (params : Arguments) (scope : Scope) (c' : Addr) : NF := ⟨"<lambda>", X.env.qual ++ "<lambda>", params, [], scope, cloFrom X.env.cells scope.names [], c'⟩
section
variable {X : Cx} {pins : List (Addr × Obj)} {σ : L2.St} {H : Hp} {s : Shared}
/-- a lambda called -/
theorem lam_call {N ps fr : List Str} {params : Arguments} {body : Expr} {scope : Scope} {f c' : Addr} {pm ctv : Value} {A : Around} {k : Nat} {js : List Nat} {us : List Value} {ys : List V} {tb : TE} {Q : VK} {E : XK}
    (S : NScope N ps fr scope) (hbind : bindArgs (PySem.W.kla_fn "<lambda>" (X.env.qual ++ "<lambda>") params body scope (cloFrom X.env.cells scope.names []) pm (.ref c') ctv) ⟨us, []⟩ = pure (ps.zip us))
    (hf : s.heap.get? f = some (PySem.W.kla_obj "<lambda>" (X.env.qual ++ "<lambda>") params body scope (cloFrom X.env.cells scope.names []) pm c' ctv)) (hc : H c' = some (CodeO c' (X.env.qual ++ "<lambda>"))) (hok : HOk X.prog X.w H s.heap)
    (C : CellsAt (cloFrom X.env.cells scope.names []) fr (js.map (slotAt σ)) s.heap H) (e0 : Env0 X.prog X.w X.K X.mg X.base A X.stack s H) (hr : Room (k + 1) A) (hl : ys.length = ps.length) (r : Vals ys us)
    (hbody : Room k (A.deeper (envF (lamF X params scope c') f s.heap.objs.size)) → PE (ncx C8.CX0 X.prog X.w X.K X.mg X.base N (lamF X params scope c') f A X.stack s H E) body tb) (ht : tb (startF N ys (js.map (slotAt σ))) H Q) :
    codeAny (model X.prog X.w) A (.call (.ref f) ⟨us, []⟩) (L2.CR C8.CX0 X.stack X.prog X.w H s Q E) s := by
  have lim : s.heap.NoLimit := e0.mod.nolimit.keeps fun b o e => (e0.bs b o e).1
  refine PySem.W.kla_callFunE hr.depth hf rfl S.co S.gen rfl (codeO_at hok hc) ?_
  rw [hbind]
  refine wpAny_pure (wpAny_newFunctionEnv S.nocell (fun ⟨n, _⟩ hy => S.par n (List.of_mem_zip hy).1) (fun h₁ hns hsb => ⟨lim.fresh _ hsb, ?_⟩) S.kind)
  show codeAny _ _ (.expr body (envF (lamF X params scope c') f s.heap.objs.size)) _ _
  have kp : ∀ b o, s.heap.get? b = some o → h₁.get? b = some o := fun b o e => hsb.extBut b o (Nat.ne_of_lt (Heap.lt_size e)) (Heap.get?_push_of_some _ e)
  have J : Inv (ncx C8.CX0 X.prog X.w X.K X.mg X.base N (lamF X params scope c') f A X.stack s H E) [] (startF N ys (js.map (slotAt σ))) H { s with heap := h₁, toks := s.toks + (ps.zip us).length } := inv_startN (F := lamF X params scope c') S hr.hd e0 hl r C hns kp
  refine PySem.W.kla_codeExpr (wpAny_mono ((hbody (hr.deeper _)).run [] _ _ H Q J ht) (fun v s' hq => ?_) fun e s' hq => hq)
  obtain ⟨w', H', J', rv, q⟩ := hq
  exact ⟨w', H', J'.os, J'.bare, J'.base, J'.hok, rv, q⟩
end
/-- the reading of sorted(xs, key=lambda a: ..) -/
def tSL (K : PySem.W.Frag) (T : List (Addr × Str)) (N : List Str) (js : List Nat) (t : TA) (tb : TE) : TE := fun σ H Q => t σ H fun vs H1 => Tabs T H1 ∧ ∃ (β : Type) (R : V → β → Prop) (k : β → PyData) (bs : List β) (xs : List V) (l : Addr), vs = [.ref l] ∧ SqL K H1 l xs ∧ Paired R xs bs ∧ AllAlike (bs.map k) ∧ Sortable (bs.map k) ∧
  (∀ b ∈ bs, (k b).depth ≤ 60) ∧
  (∀ H2, ExtN H1 H2 → (∀ y b H', R y b → b ∈ bs → (∀ b o, H2 b = some o → H' b = some o) → tb (startF N [y] (js.map (slotAt σ))) H' fun z H3 => (∀ b o, H' b = some o → H3 b = some o) ∧ Dp K H3 z (k b)) ∧
    ∀ H' p ys, (∀ b o, H2 b = some o → H' b = some o) → H' p = some (.lst ys) → Paired R ys (bs.mergeSort (dataLe false k)) → Q (.ref p) H')
section
variable {X : Cx}
theorem pe_sortedLam {T : List (Addr × Str)} {N fr : List Str} {a : Str} {params : Arguments} {body e : Expr} {scope : Scope} {c P : Addr} {k : Nat} {js : List Nat} {t : TA} {tb : TE} {p kpos lpos pos : Pos}
    (hg : Gl X "sorted") (hm : X.mg "sorted" = none) (TB : TabB X.base X.mg c P) (hcode : X.env.code = .ref c) (hmT : (P, X.env.qual ++ "<lambda>") ∈ T) (huT : ∀ p ∈ T, p.1 = P → p.2 = X.env.qual ++ "<lambda>") (hr : Room (k + 3) X.A) (S : NScope N [a] fr scope)
    (hfree : ∀ y ∈ scope.names, y.2 = .free → X.env.scope.names.lookup y.1 = some .cell ∨ X.env.scope.names.lookup y.1 = some .free) (hfr : ∀ y ∈ fr, (y, NameKind.free) ∈ scope.names) (hjs : js.map (fun j => X.N[j]?) = fr.map some) (hdef : defaultsOf params X.env = ([], []))
    (hbind : ∀ (q : Str) (cl : List (Str × Addr)) (pm cv ctv u : Value), bindArgs (PySem.W.kla_fn "<lambda>" q params body scope cl pm cv ctv) ⟨[u], []⟩ = pure ([a].zip [u])) (ha : PA X [e] t)
    (hbody : ∀ (A : Around) (outer : List Env) (s : Shared) (H : Hp) (E : XK) (f c' : Addr), Room k (A.deeper (envF (lamF X params scope c') f s.heap.objs.size)) → PE (ncx C8.CX0 X.prog X.w X.K X.mg X.base N (lamF X params scope c') f A outer s H E) body tb)
    (hee : backTo pos (starEach [e] X.env) = (false, eval e X.env) :: backTo pos (starEach [] X.env) := by rfl) (hpl : (backTo pos (starEach [e] X.env)).any (·.1) = false := by rfl) :
    PE X (.Call (.Name "sorted" p) [e] [⟨some "key", .Lambda params body scope lpos, kpos⟩] pos) (tSL X.K T N js t tb) := by
  refine ⟨fun pins s σ H Q I h => ?_⟩
  refine wpAny_Call_Name_kw (ld_blt I hg hm (u := .builtin "sorted") (by rfl) ?_ (by decide) (by decide))
  refine PyProof.Rows.callWith_kw (thn (ha.run pos pins s σ H _ I h) fun us s1 ⟨vs, H1, I1, r1, q1⟩ => ?_) hee hpl (by rfl) (by rfl)
  obtain ⟨hT, β, R, kd, bs, xs, l, rfl, hs, hp, hal, hk, hd, hall⟩ := q1
  obtain rfl := Vals.ref1 r1
  show wpAny _ _ (evalAll [(do let v ← eval (.Lambda params body scope lpos) X.env; standAt pos; pure v)]) _ _ s1
  have hf0 : ∀ y ∈ scope.names, y.2 = .free → ∃ c, X.env.cells.lookup y.1 = some c := fun y hy e => (hfree y hy e).elim (fun z => I.ok.has _ (.inl z)) fun z => I.ok.has _ (.inr z)
  refine wpAny_evalAll_cons (wpAny_bind (lam_make2 I1 TB hcode hmT huT hT hdef hf0 fun f c' pm ctv H2 s2 I2 eN T2 hf hfn hff hco => wpAny_bind (wpAny_standAt (wpAny_pure (wpAny_evalAll_nil ?_)))))
  obtain ⟨turn, fin⟩ := hall H2 eN
  have hun : X.A.units + 16 * (k + 3) + 200 < cLine := hr.un
  refine sorted_key_run I2 (sql_ext hs eN) hp hal hk (fun b hb => by have := hd b hb; omega) hf hfn hff (fun y b v s' H' ry hb rv I' S' hf' => ?_) (fun H' p ys h1 h2 h3 => fin H' p ys h2 h1 h3)
  have cp := Caps.made (X := X) (fr := fr) (js := js) I'.ok hfree hfr hjs
  exact lam_call (σ := σ) S (hbind _ _ _ _ _ _) hf' (S' _ _ hco) I'.hok (cells_of I' cp) I'.env0.in1.in1 (Room.in1 (Room.in1 hr)) rfl (.cons rv .nil) (hbody _ _ _ _ _ _ _) (turn y b H' ry hb S')
end
end SDX
set_option Elab.async false
set_option linter.all false
set_option maxRecDepth 100000
set_option maxHeartbeats 4000000
set_option exponentiation.threshold 100000
/-! # places_one_with -/
namespace SDP
open PySem PySem.Spec PyProof.Rows L2 SDX SD TL SR
open SeamNum (Bytes fits FINE Point fitsP)
open SeamPattern (Edge Seam)
theorem u65_8 {k : Nat} {A : Around} (r : Room k A) : A.units + 65 < cLine := by
  have := r.un
  omega
theorem eqv_pts8 (p q : Point) : PyData.eqv (.tuple [.tuple [.int p.1.num, .int p.1.den], .tuple [.int p.2.num, .int p.2.den]]) (.tuple [.tuple [.int q.1.num, .int q.1.den], .tuple [.int q.2.num, .int q.2.den]]) = decide (p = q) := by
  have r : ∀ {a b : Rat}, (a.num = b.num ∧ (a.den : Int) = b.den) ↔ a = b := fun {a b} => ⟨fun ⟨x, y⟩ => Rat.ext x (by exact_mod_cast y), fun z => by rw [z]; exact ⟨rfl, rfl⟩⟩
  rw [Bool.eq_iff_iff, decide_eq_true_eq]
  simp only [PyData.eqv, PyData.eqvAll, Bool.and_eq_true, beq_iff_eq, and_true]
  rw [r, r]
  exact ⟨fun ⟨x, y⟩ => Prod.ext x y, fun z => by rw [z]; exact ⟨rfl, rfl⟩⟩
def plD (x : SeamPattern.Place) : PyData := .tuple [.int (x.1 : Int), .tuple [.tuple [.int x.2.1.num, .int x.2.1.den], .tuple [.int x.2.2.num, .int x.2.2.den]]]
theorem dp_pl {K : PySem.W.Frag} {H : Hp} {v : V} {x : SeamPattern.Place} (h : PlAt H v x) : Dp K H v (plD x) := by
  obtain ⟨a, vp, rfl, q, t⟩ := h
  exact .tup (SqT.of q) (.cons (.int _) (.cons (dp_pt t) .nil))
theorem eqv_pl (x y : SeamPattern.Place) : PyData.eqv (plD x) (plD y) = (x == y) := by
  have h := eqv_pts8 x.2 y.2
  unfold plD
  rw [Bool.eq_iff_iff, beq_iff_eq]
  unfold PyData.eqv PyData.eqvAll PyData.eqvAll
  rw [h]
  simp only [PyData.eqv, PyData.eqvAll, Bool.and_eq_true, beq_iff_eq, and_true, decide_eq_true_eq]
  exact ⟨fun ⟨a, b⟩ => Prod.ext (by omega) b, fun z => by rw [z]; exact ⟨rfl, rfl⟩⟩
theorem depth_pl : ∀ es : List SeamPattern.Place, PyData.depthAll (es.map plD) ≤ 3
  | [] => by simp [PyData.depthAll]
  | e :: r => by
    have ih := depth_pl r
    have h1 : PyData.depth (plD e) = 3 := by unfold plD; simp [PyData.depth, PyData.depthAll]
    rw [List.map_cons]
    unfold PyData.depthAll
    rw [h1]
    omega
theorem lay_pl : ∀ es : List SeamPattern.Place, PyData.canLayAll0 (es.map plD) = true
  | [] => by simp [PyData.canLayAll0]
  | e :: r => by
    have ih := lay_pl r
    rw [List.map_cons]
    unfold PyData.canLayAll0
    rw [ih]
    unfold plD
    simp [PyData.canLay0, PyData.canLayAll0]
theorem shaped_pl (x : SeamPattern.Place) : SeqAt.shaped (plD x) = true := rfl
theorem shaped_pls (es : List SeamPattern.Place) : SeqAt.shaped (.list (es.map plD)) = true := by
  unfold SeqAt.shaped
  have h1 : PyData.canLay0 (.list (es.map plD)) = true := by unfold PyData.canLay0; exact lay_pl es
  have h2 : PyData.depth (.list (es.map plD)) ≤ 64 := by
    have := depth_pl es
    unfold PyData.depth
    omega
  rw [h1, decide_eq_true h2]
  rfl
theorem any_pl (es : List SeamPattern.Place) (e : SeamPattern.Place) : ((es.map plD).any fun z => PyData.eqv z (plD e)) = es.contains e := by
  rw [List.any_map]
  induction es with
  | nil => rfl
  | cons f r ih =>
    rw [List.any_cons, List.contains_cons, ih]
    congr 1
    show PyData.eqv (plD f) (plD e) = _
    rw [eqv_pl, Bool.beq_comm]
theorem flat_len {α β : Type} (g : α → List β) (n : Nat) : ∀ l : List α, (∀ x ∈ l, (g x).length ≤ n) → (l.flatMap g).length ≤ l.length * n
  | [], _ => Nat.zero_le _
  | x :: r, h => by
    have h1 := h x (List.mem_cons_self ..)
    have h2 := flat_len g n r fun y hy => h y (List.mem_cons_of_mem _ hy)
    rw [List.flatMap_cons, List.length_append, List.length_cons, Nat.succ_mul]
    omega
theorem edges_few {Pt : SeamPattern.Pattern} (h : SR.PatFine Pt) : Pt.edges.length ≤ 128 := by
  unfold SeamPattern.Pattern.edges
  refine Nat.le_trans (flat_len _ 16 _ fun k hk => ?_) ?_
  · rw [List.length_map, List.length_range]
    by_cases z : k < Pt.pieces.length
    · exact (h.rows k z).most
    · rw [SR.row_none z]
      exact Nat.zero_le _
  · rw [List.length_range]
    have := h.most
    omega
theorem led_in {Pt : SeamPattern.Pattern} (h : SR.PatFine Pt) {x y : SeamPattern.Place} (t : y ∈ Pt.touching x) : y.1 < Pt.pieces.length := by
  obtain ⟨e, f, t, o⟩ := (SR.touch_mem h x y).mp t
  obtain ⟨_, h2, _, _⟩ := SR.mated h o.mates
  rw [o.other]
  exact SR.in_piece h2
section
variable {P : Program} {w : World} {K : PySem.W.Frag} {mg : Str → Option Value} {base : Heap} {D : PAd} {R : RefAd}
/-- the table of in_order's code object -/
abbrev tabT (P : Addr) : List (Addr × Str) := [(P, (Str.ofString "in_order" ++ Str.ofString ".<locals>.") ++ Str.ofString "<lambda>")]
/-- places put in order -/
def spInOrder (tP : Addr) : Sp := fun vs H Q E => ∃ q us L, vs = [.ref q] ∧ LamX.Tabs (tabT tP) H ∧ H q = some (.lst us) ∧ Paired (PlAt H) us L ∧ (∀ y ∈ L, fitsP y.2 = true) ∧ L.length ≤ 129 ∧
  ∀ H' q' us' L', H' q' = some (.lst us') → Paired (PlAt H') us' L' → L'.Perm L → (L'.Pairwise fun a b => noLater a b = true) → Q (.ref q') H'
structure OneT (K : PySem.W.Frag) (mg : Str → Option Value) (P : Program) (base : Heap) (D : PAd) (R : RefAd) (cF : Addr) : Prop where
  T : PrsT K mg P base D R cF
  Pr : ∃ f d, Fn1 K mg "partners" S_partners ["pattern", "place"] f d
  len : mg "len" = none
def spOneW (D : PAd) (cF tP : Addr) : Sp := fun vs H Q E => ∃ r pl sl vcs ps ss, ∃ (vx : V) (x : SeamPattern.Place), vs = [.ref r, vx] ∧ LamX.Tabs (tabT tP) H ∧ PatS D.CT D.CP H r pl sl vcs ps ss ∧ PlAt H vx x ∧ fitsP x.2 = true ∧ SR.PatFine ⟨ps, ss⟩ ∧ x.1 < ps.length ∧
  (∀ H' q us L, H' q = some (.lst us) → Paired (PlAt H') us L → L = (⟨ps, ss⟩ : SeamPattern.Pattern).ones x → (∀ y ∈ L, fitsP y.2 = true ∧ y.1 < ps.length) → L.length ≤ 129 → Q (.ref q) H') ∧
  (∀ y, y ∈ (⟨ps, ss⟩ : SeamPattern.Pattern).ones x → fitsP y.2 = false → Rs cF E (-6) [])
theorem scOnes : FnScope ["pattern", "place", "found", "looked_at", "others", "other"] ["pattern", "place"] (defScope S_places_one_with) := ⟨rfl, rfl, rfl, by decide +kernel, rfl, by decide +kernel, by decide +kernel⟩
theorem ok_ones1 {cF tP : Addr} (T : OneT K mg P base D R cF) {fI : Addr} {dI : FuncData} (FI : Fn1 K mg "in_order" S_in_order ["places"] fI dI) (okI' : FnOk P w K mg base CX0 8 fI dI ["places"] (spInOrder tP)) {f : Addr} {fd : FuncData} (F : Fn1 K mg "places_one_with" S_places_one_with ["pattern", "place"] f fd) : FnOk P w K mg base (L2N.CX P w) 37 f fd ["pattern", "place"] (spOneW D cF tP) := by
  refine okN F.F scOnes (fun vs H Q E h => ?_) (fun cdv A0 outer s H vs Q E hr h => ?_)
  · obtain ⟨r, pl, sl, vcs, ps, ss, vx, x, rfl, _⟩ := h
    rfl
  obtain ⟨r, pl, sl, vcs, ps, ss, vx, x, rfl, hT, S, hx, fx, PF, xl, good, bad⟩ := h
  obtain ⟨_, _, FP⟩ := T.Pr
  have okP := ok_partners (w := w) T.T FP
  have hr8 : Room 8 _ := hr.mono (by decide)
  refine ⟨_, pss_cons (ps_set (i := 2) scOnes.nd rfl (Or.inl rfl) (pe_lst (pa_cons (pv 1) pa_nil)))
    (pss_cons (ps_set (i := 3) scOnes.nd rfl (Or.inl rfl) pe_int)
    (pss_cons (ps_while (passes_of rfl) (pt_cmpR op_lt (pv 3) (pe_callB call_len_seq rfl T.len PySem.boot_len (pa_cons (pv 2) pa_nil)) (nomark _))
      (pss_cons (ps_set (i := 4) scOnes.nd rfl (Or.inl rfl) (pe_call okP hr rfl FP.m FP.F.kp FP.b .nil passN (pa_cons (pv 0) (pa_cons (pe_ix ix_list (pv 2) (pv 3) (fun _ _ => rfl)) pa_nil))))
      (pss_cons (ps_for (passes_of rfl) rfl (pi_list (pv 4)) (pg_name (i := 5) scOnes.nd rfl (Or.inl rfl))
        (pss_one (ps_if (pt_cmpR (op_notInD (u65_8 hr)) (pv 5) (pv 2) (by rfl)) (pss_one (ps_expr (pe_bm PySem.F.plainAttrs_list PySem.F.slot_list_append PySem.F.type_list_append mt_append (pv 2) (pa_cons (pv 5) pa_nil)))) pss_nil)))
      (pss_one (ps_aug (i := 3) scOnes.nd rfl (Or.inl rfl) pe_int ip_add)))))
    (pss_one (ps_ret (pe_call okI' hr8 rfl FI.m FI.F.kp FI.b .nil pass0 (pa_cons (pv 2) pa_nil)))))), ?_⟩
  obtain ⟨LL, hLL, inLL⟩ := SR.led_few PF x
  have e128 := edges_few PF
  have mem := (SR.closure_all PF x).mem_iff
  have onesM : ∀ y, y ∈ (⟨ps, ss⟩ : SeamPattern.Pattern).ones x ↔ SR.Led (⟨ps, ss⟩ : SeamPattern.Pattern).touching x y := fun y => by
    rw [← mem y]
    unfold SeamPattern.Pattern.ones
    exact (List.mergeSort_perm _ _).mem_iff
  refine ⟨_, rfl, by show 1 ≤ sizeLine; decide, fun Fl hFl => ?_⟩
  have s0 : Same H (upd H Fl (.lst [vx])) := same_new hFl _
  have h0 : (upd H Fl (.lst [vx])) Fl = some (.lst [vx]) := upd_same
  generalize upd H Fl (.lst [vx]) = H0 at s0 h0 ⊢
  refine ⟨fun m σ H' => ∃ us L, ∃ (i : Nat), (∃ o4 o5, σ = [some (.ref r), some vx, some (.ref Fl), some (.int (i : Int)), o4, o5]) ∧ Same H H' ∧ H' Fl = some (.lst us) ∧ Paired (PlAt H') us L ∧ L.Nodup ∧ x ∈ L ∧
      (∀ y ∈ L, SR.Led (⟨ps, ss⟩ : SeamPattern.Pattern).touching x y ∧ fitsP y.2 = true ∧ y.1 < ps.length) ∧ (∀ k, k < i → ∀ y, L[k]? = some y → ∀ z ∈ (⟨ps, ss⟩ : SeamPattern.Pattern).touching y, z ∈ L) ∧ i ≤ L.length ∧ L.length ≤ 129 ∧ m = 130 - i,
    ⟨_, [vx], [x], 0, ⟨_, _, rfl⟩, s0, h0, .cons (hx.same s0) .nil, by simp, by simp, fun y hy => ?_, fun k hk => absurd hk (Nat.not_lt_zero _), Nat.zero_le _, by simp, rfl⟩, ?_⟩
  · rw [List.mem_singleton.mp hy]
    exact ⟨.self, fx, xl⟩
  rintro m σ H1 ⟨us, L, i, ⟨o4, o5, rfl⟩, s1, hF1, hp1, nd, xm, all, cl, il, l129, rfl⟩
  have lu : us.length = L.length := Paired.length hp1
  refine ⟨_, rfl, _, rfl, Fl, _, rfl, .inl (SqL.of hF1), _, _, rfl, rfl, _, rfl, ?_⟩
  rw [lu]
  by_cases hlt : ¬ i < L.length
  · have e : decide ((i : Int) < (L.length : Int)) = false := decide_eq_false (by omega)
    rw [e]
    refine iteF ⟨_, rfl, Fl, us, L, rfl, hT.ext s1, hF1, hp1, fun y hy => (all y hy).2.1, l129, fun H' q' us' L' hq hp' pm pw => ?_⟩
    have al : SR.AllLed (⟨ps, ss⟩ : SeamPattern.Pattern).touching x L := ⟨nd, xm, fun y hy => (all y hy).1, fun y hy z hz => by
      obtain ⟨k, hk, rfl⟩ := List.mem_iff_getElem.mp hy
      exact cl k (by omega) _ (List.getElem?_eq_getElem hk) z hz⟩
    have al' : SR.AllLed (⟨ps, ss⟩ : SeamPattern.Pattern).touching x L' := ⟨pm.nodup_iff.mpr nd, pm.mem_iff.mpr xm, fun y hy => al.led y (pm.mem_iff.mp hy), fun y hy z hz => pm.mem_iff.mpr (al.closed y (pm.mem_iff.mp hy) z hz)⟩
    exact good H' q' us' L' hq hp' (SR.ones_is PF al' pw).symm (fun y hy => (all y (pm.mem_iff.mp hy)).2) (by rw [pm.length_eq]; exact l129)
  · have hlt : i < L.length := Decidable.of_not_not hlt
    have e : decide ((i : Int) < (L.length : Int)) = true := decide_eq_true (by omega)
    rw [e]
    obtain ⟨y, hy⟩ : ∃ y, L[i]? = some y := ⟨_, List.getElem?_eq_getElem hlt⟩
    obtain ⟨vy, hvy, hpy⟩ : ∃ vy, us[i]? = some vy ∧ PlAt H1 vy y := by
      have hu : i < us.length := by omega
      obtain ⟨z, hz, hm⟩ := paired_fst hp1 i us[i] (List.getElem?_eq_getElem hu)
      rw [hy] at hz
      cases hz
      exact ⟨_, List.getElem?_eq_getElem hu, hm⟩
    obtain ⟨ly, fy, yl⟩ := all y (List.mem_of_getElem? hy)
    refine iteT ⟨fun σ' H' => ∃ us L, (∃ o4 o5, σ' = [some (.ref r), some vx, some (.ref Fl), some (.int ((i : Int) + 1)), o4, o5]) ∧ Same H H' ∧ H' Fl = some (.lst us) ∧ Paired (PlAt H') us L ∧ L.Nodup ∧ x ∈ L ∧
      (∀ y ∈ L, SR.Led (⟨ps, ss⟩ : SeamPattern.Pattern).touching x y ∧ fitsP y.2 = true ∧ y.1 < ps.length) ∧ (∀ k, k < i + 1 → ∀ y, L[k]? = some y → ∀ z ∈ (⟨ps, ss⟩ : SeamPattern.Pattern).touching y, z ∈ L) ∧ i + 1 ≤ L.length, fun σ' H' ⟨us', L', ⟨o4', o5', e'⟩, a1, a2, a3, a4, a5, a6, a7, a8⟩ => ?_, ?_⟩
    · have b129 : L'.length ≤ 129 := Nat.le_trans (SR.nodup_len L' LL a4 fun z hz => inLL z (a6 z hz).1) (by omega)
      exact ⟨130 - (i + 1), by omega, us', L', i + 1, ⟨o4', o5', by rw [e']; rfl⟩, a1, a2, a3, a4, a5, a6, a7, a8, b129, rfl⟩
    refine ⟨_, rfl, _, rfl, _, rfl, Fl, _, i, vy, rfl, rfl, SqL.of hF1, atI_nat hvy, r, pl, sl, vcs, ps, ss, vy, y, rfl, S.same s1, hpy, fy, PF, yl, fun H2 q us2 L2 s2 hq hq2 hp2 f2 m2 l2 => ?_, fun z hz hzf => bad z ((onesM z).mpr (.step ly hz)) hzf⟩
    have nq : q ≠ Fl := fun z => by rw [z, hF1] at hq; cases hq
    have s02 := s1.trans s2
    refine ⟨_, rfl, q, rfl, ⟨_, SqL.of hq2⟩, ?_⟩
    have len2 : us2.length = L2.length := Paired.length hp2
    refine for_list (xs := us2) (fun j σ H' => ∃ us' mo, (∃ o5, σ = [some (.ref r), some vx, some (.ref Fl), some (.int (i : Int)), some (.ref q), o5]) ∧ Same H H' ∧ H' q = some (.lst us2) ∧ Paired (PlAt H') us2 L2 ∧ H' Fl = some (.lst us') ∧ Paired (PlAt H') us' (L ++ mo) ∧ (L ++ mo).Nodup ∧
        (∀ y ∈ L ++ mo, SR.Led (⟨ps, ss⟩ : SeamPattern.Pattern).touching x y ∧ fitsP y.2 = true ∧ y.1 < ps.length) ∧ (∀ k, k < j → ∀ z, L2[k]? = some z → z ∈ L ++ mo))
      ⟨us, [], ⟨_, rfl⟩, s02, hq2, hp2, s2 _ _ hF1, by rw [List.append_nil]; exact paired_map (fun _ _ z => z.same s2) hp1, by rw [List.append_nil]; exact nd, by rw [List.append_nil]; exact all, fun k hk => absurd hk (Nat.not_lt_zero _)⟩ (fun j σ H' _ ⟨_, _, _, _, z, _⟩ => SqL.of z) (fun j v σ H3 hj ⟨us3, mo, ⟨o5, eσ⟩, s3, hq3, hp3, hF3, hp3', nd3, all3, got⟩ => ?_) (fun σ H3 ⟨us3, mo, ⟨o5, eσ⟩, s3, hq3, hp3, hF3, hp3', nd3, all3, got⟩ => ?_)
    · subst eσ
      obtain ⟨z, hz, hpz⟩ := paired_fst hp3 j v hj
      have zm : z ∈ L2 := List.mem_of_getElem? hz
      obtain ⟨zt, zf⟩ := f2 z zm
      have l3 : us3.length = (L ++ mo).length := Paired.length hp3'
      have b3 : (L ++ mo).length ≤ 129 := Nat.le_trans (SR.nodup_len (L ++ mo) LL nd3 fun z hz => inLL z (all3 z hz).1) (by omega)
      refine ⟨_, rfl, _, rfl, plD z, (L ++ mo).map plD, dp_pl hpz, .lst (SqL.of hF3) (dp_all (fun _ _ z => dp_pl z) hp3'), shaped_pl z, shaped_pls _, _, rfl, ?_⟩
      rw [any_pl]
      cases hc : (L ++ mo).contains z with
      | true =>
        refine iteF ⟨us3, mo, ⟨_, rfl⟩, s3, hq3, hp3, hF3, hp3', nd3, all3, fun k hk u hu => ?_⟩
        by_cases ek : k = j
        · subst ek
          rw [hz] at hu
          cases hu
          exact List.contains_iff_mem.mp hc
        · exact got k (by omega) u hu
      | false =>
        have nz : z ∉ L ++ mo := fun h => by rw [List.contains_iff_mem.mpr h] at hc; cases hc
        refine iteT ⟨_, rfl, .inl ⟨rfl, _, SqL.of hF3⟩, _, rfl, Fl, _, _, rfl, rfl, hF3, by rw [l3, sizeLine_eq]; omega, ?_⟩
        have kp : Kp [Fl] H3 (upd H3 Fl (.lst (us3 ++ [v]))) := Kp.put hF3 rfl (by simp)
        refine ⟨us3 ++ [v], mo ++ [z], ⟨_, rfl⟩, fun b o hb => ?_, kp _ _ hq3 (.inl (by simp [nq])), paired_map (fun _ _ z => z.kp kp) hp3, upd_same, ?_, ?_, fun u hu => ?_, fun k hk u hu => ?_⟩
        · rw [upd_ne (ne_of_none hb hFl)]
          exact s3 b o hb
        · rw [← List.append_assoc]
          exact paired_snoc (paired_map (fun _ _ z => z.kp kp) hp3') (hpz.kp kp)
        · rw [← List.append_assoc]
          refine List.nodup_append.mpr ⟨nd3, by simp, fun a ha b hb => ?_⟩
          rw [List.mem_singleton.mp hb]
          exact fun e => nz (e ▸ ha)
        · rw [← List.append_assoc] at hu
          rcases List.mem_append.mp hu with h | h
          · exact all3 u h
          · rw [List.mem_singleton.mp h]
            exact ⟨.step ly zt, zf, led_in PF zt⟩
        · rw [← List.append_assoc]
          by_cases ek : k = j
          · subst ek
            rw [hz] at hu
            cases hu
            exact List.mem_append_right _ (by simp)
          · exact List.mem_append_left _ (got k (by omega) u hu)
    · subst eσ
      refine ⟨_, rfl, _, _, rfl, rfl, us3, L ++ mo, ⟨_, _, rfl⟩, s3, hF3, hp3', nd3, List.mem_append_left _ xm, all3, fun k hk u hu z hz => ?_, by rw [List.length_append]; omega⟩
      by_cases ek : k = i
      · subst ek
        rw [List.getElem?_append_left hlt, hy] at hu
        cases hu
        obtain ⟨k2, hk2, rfl⟩ := List.mem_iff_getElem.mp (m2 z hz)
        exact got k2 (by omega) _ (List.getElem?_eq_getElem hk2)
      · rw [List.getElem?_append_left (by omega)] at hu
        exact List.mem_append_left _ (cl k (by omega) u hu z hz)
end
end SDP
set_option Elab.async false
set_option linter.all false
set_option maxRecDepth 100000
set_option maxHeartbeats 4000000
set_option exponentiation.threshold 100000
/-! # in_order -/
namespace SDX
open PySem PySem.Spec PyProof.Rows L2 PySem.W
theorem dataLt_iii (a b c a' b' c' : Int) : dataLt (.tuple [.int a, .tuple [.int b, .int c]]) (.tuple [.int a', .tuple [.int b', .int c']]) = decide (a < a' ∨ (a = a' ∧ (b < b' ∨ (b = b' ∧ c < c')))) := by
  rw [dataLt_pair (by simp [alike]) (by simp [alike, alikeAll]), dataLt_int, dataLt_ii]
  simp only [PyData.eqv, PyData.eqvAll, beq_iff_eq, Bool.and_eq_true, and_true]
  by_cases h1 : a = a' <;> by_cases h2 : b = b' <;> by_cases h3 : c = c' <;> simp [h1, h2, h3]
/-- a def whose code object is told -/
theorem okC {P : Program} {w : World} {K : PySem.W.Frag} {mg : Str → Option Value} {base : Heap} {CX : CXT} {x qual : Str} {st : Stmt} {f : Addr} {fd : FuncData} {N ps : List Str} {k : Nat} {sp : Sp} (F : L2.Fun K x qual st f fd) (S : FnScope N ps (defScope st)) (len : ∀ vs H Q E, sp vs H Q E → vs.length = ps.length)
    (hbody : ∀ (cdv : Value) (A : Around) (outer : List Env) (s : Shared) (H : Hp) (vs : List V) (Q : VK) (E : XK), cdv = fd.code → Room k (A.deeper (envOfC qual (defScope st) s.heap.objs.size f cdv)) → sp vs H Q E →
      ∃ t, PSs (cxOf CX P w K mg base N qual (defScope st) f cdv A outer s H E) (defBody st) t ∧ t { nx := fun _ H' => Q .non H', rt := Q } (start N vs) H) : FnOk P w K mg base CX (k + 1) f fd ps sp := by
  obtain ⟨oc, od, kV, doc, pm, an, cdv, ct, osl, rfl, lk, hcd⟩ := F.ex
  exact fn_of lk hcd S len fun A outer s H vs Q E hr hsp => hbody cdv A outer s H vs Q E rfl hr hsp
end SDX
namespace SDP
open PySem PySem.Spec PyProof.Rows L2 SDX SD TL SR
open SeamNum (Bytes fits FINE Point fitsP)
open SeamPattern (Edge Seam)
def kD (D : Int) (x : SeamPattern.Place) : PyData := .tuple [.int (x.1 : Int), .tuple [.int (wholeP D x.2).1, .int (wholeP D x.2).2]]
def leD (D : Int) (x y : SeamPattern.Place) : Prop := ¬ (y.1 < x.1 ∨ (y.1 = x.1 ∧ ((wholeP D y.2).1 < (wholeP D x.2).1 ∨ ((wholeP D y.2).1 = (wholeP D x.2).1 ∧ (wholeP D y.2).2 < (wholeP D x.2).2))))
theorem le_is (D : Int) (x y : SeamPattern.Place) : PySem.W.dataLe false (kD D) x y = true ↔ leD D x y := by
  show (!PySem.W.dataLt (kD D y) (kD D x)) = true ↔ _
  unfold kD leD
  rw [dataLt_iii, Bool.not_eq_true', decide_eq_false_iff_not]
  have q1 : ((y.1 : Int) < (x.1 : Int)) ↔ y.1 < x.1 := by omega
  have q2 : ((y.1 : Int) = (x.1 : Int)) ↔ y.1 = x.1 := by omega
  rw [q1, q2]
theorem sort_places {D : Int} {L : List SeamPattern.Place} (hD : 0 < D) (sc : ∀ y ∈ L, Sc D (wholeP D y.2) y.2) :
    (L.mergeSort (PySem.W.dataLe false (kD D))).Perm L ∧ (L.mergeSort (PySem.W.dataLe false (kD D))).Pairwise fun a b => noLater a b = true := by
  have pm := List.mergeSort_perm L (PySem.W.dataLe false (kD D))
  refine ⟨pm, ?_⟩
  have pw := List.pairwise_mergeSort (le := PySem.W.dataLe false (kD D)) (fun a b c h k => by
    rw [le_is] at h k ⊢
    unfold leD at h k ⊢
    omega) (fun a b => by
    rw [Bool.or_eq_true, le_is, le_is]
    unfold leD
    omega) L
  refine pw.imp_of_mem fun {a b} ha hb h => ?_
  have sa := sc a (pm.mem_iff.mp ha)
  have sb := sc b (pm.mem_iff.mp hb)
  rw [le_is] at h
  unfold leD at h
  rw [noLater_iff, sooner_iff]
  have l1 := sc_lt hD sb.x sa.x
  have l2 := sc_lt hD sb.y sa.y
  have l3 := sc_lt hD sa.x sb.x
  have e1 : b.2.1 = a.2.1 → (wholeP D b.2).1 = (wholeP D a.2).1 := fun z => by
    have n1 : ¬ (wholeP D b.2).1 < (wholeP D a.2).1 := fun y => by
      have := l1.mp y
      grind
    have n2 : ¬ (wholeP D a.2).1 < (wholeP D b.2).1 := fun y => by
      have := l3.mp y
      grind
    omega
  rintro (z | ⟨z, z1 | ⟨z1, z2⟩⟩)
  · exact h (.inl z)
  · exact h (.inr ⟨z, .inl (l1.mpr z1)⟩)
  · exact h (.inr ⟨z, .inr ⟨e1 z1, l2.mpr z2⟩⟩)
theorem PlAt.ext {H H' : Hp} {v : V} {x : SeamPattern.Place} (h : PlAt H v x) (k : LamX.ExtN H H') : PlAt H' v x := by
  obtain ⟨a, vp, e, q, b, vx, vy, e2, q2, ⟨ax, ex, qx⟩, ⟨ay, ey, qy⟩⟩ := h
  exact ⟨a, vp, e, k _ _ q (fun _ z => by cases z), b, vx, vy, e2, k _ _ q2 (fun _ z => by cases z), ⟨ax, ex, k _ _ qx (fun _ z => by cases z)⟩, ⟨ay, ey, k _ _ qy (fun _ z => by cases z)⟩⟩
section
variable {P : Program} {w : World} {K : PySem.W.Frag} {mg : Str → Option Value} {base : Heap} {D : PAd} {R : RefAd}
theorem scInOrder : FnScope ["places", "below", "place"] ["places"] (defScope S_in_order) := ⟨rfl, rfl, rfl, by decide +kernel, rfl, by decide +kernel, by decide +kernel⟩
theorem ok_inOrder {fB fW c tP f : Addr} {dB dW fd : FuncData} (FB : Fn1 K mg "common_below" S_common_below ["corners"] fB dB) (FW : Fn1 K mg "whole_corners" S_whole_corners ["corners", "below"] fW dW) (mS : mg "sorted" = none) (TB : LamX.TabB base mg c tP)
    (F : Fn1 K mg "in_order" S_in_order ["places"] f fd) (hc : fd.code = .ref c) : FnOk P w K mg base CX0 8 f fd ["places"] (spInOrder tP) := by
  refine okC F.F scInOrder (fun vs H Q E h => ?_) (fun cdv A0 outer s H vs Q E ec hr h => ?_)
  · obtain ⟨q, us, L, rfl, _⟩ := h
    rfl
  obtain ⟨q, us, L, rfl, hT, hq, hp, hf, h129, good⟩ := h
  have hr1 : Room 1 _ := hr.mono (by decide)
  have ecd : cdv = .ref c := ec.trans hc
  refine ⟨_, pss_cons (ps_set (i := 1) scInOrder.nd rfl (Or.inr rfl) (pe_call (ok_below FB) hr1 rfl FB.m FB.F.kp FB.b .nil pass0 (pa_cons (pe_lc (own := [("place", 2)]) (g := gName 2) (tt := tYes) rfl scInOrder.nd (pi_list (pv 0)) (blkOk_by (N := ["places", "below", "place"]) (sc := defScope S_in_order) (by decide +kernel))
      (fun _ _ _ _ _ => pg_name (i := 2) scInOrder.nd rfl (Or.inl rfl)) (fun _ _ _ _ _ => pts_nil)
      (fun _ _ _ _ _ => pe_ix (ix_tup : IxR _ (rIxT K)) (pv 2) pe_int (fun _ _ => rfl))) pa_nil)))
    (pss_one (ps_ret (pe_sortedLam (k := 4) (T := tabT tP) (N := ["place", "below"]) (fr := ["below"]) (a := "place") (js := [1]) rfl mS TB ecd (List.mem_singleton.mpr rfl) (fun p hp _ => by rw [List.mem_singleton.mp hp]; rfl) hr (NdefX.nscope_by (by decide +kernel)) (NdefX.ndef_free (sc := defScope S_in_order) (fr := ["below"]) (by decide +kernel)) (NdefX.ndef_fr (sc := defScope S_in_order) (by decide +kernel)) rfl rfl (fun _ _ _ _ _ _ => rfl) (pa_cons (pv 0) pa_nil)
      (fun A outer s H E f c' hr' => pe_tup (pa_cons (pe_ix (ix_tup : IxR _ (rIxT K)) (pv 0) pe_int (fun _ _ => rfl)) (pa_cons (pe_ix (ix_list : IxR _ (rIxL K)) (pe_call (ok_wholeC FW) (hr'.mono (by decide)) rfl FW.m FW.F.kp FW.b .nil pass0 (pa_cons (pe_lst (pa_cons (pe_ix (ix_tup : IxR _ (rIxT K)) (pv 0) pe_int (fun _ _ => rfl)) pa_nil)) (pa_cons (pv 1) pa_nil))) pe_int (fun _ _ => rfl)) pa_nil)))))), ?_⟩
  have len := Paired.length hp
  refine ⟨_, rfl, q, rfl, ⟨_, SqL.of hq⟩, fun D2 hD2 => ?_⟩
  have nq : q ≠ D2 := fun z => by rw [z, hD2] at hq; cases hq
  refine lc_list (xs := us) (fun i H' => ∃ as : List V, Same H H' ∧ H' D2 = some (.lst as) ∧ Paired (PtAt H') as ((L.map fun y => y.2).take i)) ⟨[], same_new hD2 _, upd_same, .nil⟩ (fun i H' _ ⟨_, s, _, _⟩ => SqL.of (s _ _ hq)) (fun i v H' hi ⟨as, s1, s2, s3⟩ => ?_) (fun H1 ⟨as, s1, s2, s3⟩ => ?_)
  · obtain ⟨y, hy, a, vp, rfl, ha, hvp⟩ := paired_fst hp i v hi
    have las : as.length ≤ 129 := by
      rw [Paired.length s3, List.length_take, List.length_map]
      omega
    have ey : (L.map fun y => y.2)[i]? = some y.2 := by rw [List.getElem?_map, hy]; rfl
    refine ⟨rfl, _, rfl, a, _, 1, vp, rfl, rfl, SqT.of (s1 _ _ ha), atI_nat (j := 1) rfl, as, s2, by rw [sizeLine_eq]; omega, as ++ [vp], fun b o hb => ?_, upd_same, ?_⟩
    · rw [upd_ne (ne_of_none hb hD2)]
      exact s1 b o hb
    · rw [List.take_add_one, ey]
      have kp : Kp [D2] H' (upd H' D2 (.lst (as ++ [vp]))) := Kp.put s2 rfl (by simp)
      exact paired_snoc (paired_map (fun _ _ z => z.kp kp) s3) ((hvp.same s1).kp kp)
  · rw [List.take_of_length_le (by rw [List.length_map, len]; exact Nat.le_refl _)] at s3
    have ll : (L.map fun y => y.2).length = L.length := List.length_map _
    have hf2 : ∀ p ∈ L.map (fun y => y.2), fitsP p = true := fun p hp => by
      obtain ⟨y, hy, rfl⟩ := List.mem_map.mp hp
      exact hf y hy
    obtain ⟨D, eD⟩ : ∃ D, D = belowTo (L.map fun y => y.2) (L.map fun y => y.2).length := ⟨_, rfl⟩
    have d0 : 0 < D := by rw [eD]; exact belowTo_pos _ _
    have db : D.natAbs < 2 ^ 26000 := by
      rw [eD]
      exact Nat.lt_of_lt_of_le (belowTo_bits hf2 _ (Nat.le_refl _)) (Nat.pow_le_pow_right (by decide) (by omega))
    have sc : ∀ y ∈ L, Sc D (wholeP D y.2) y.2 := fun y hy => by
      obtain ⟨i, hi, rfl⟩ := List.mem_iff_getElem.mp hy
      have e : (L.map fun y => y.2)[i]? = some L[i].2 := by rw [List.getElem?_map, List.getElem?_eq_getElem hi]; rfl
      obtain ⟨d1, d2⟩ := belowTo_dvd e (i := (L.map fun y => y.2).length) (by omega)
      rw [← eD] at d1 d2
      exact ⟨whole_one d1, whole_one d2⟩
    obtain ⟨pm, pw⟩ := sort_places d0 sc
    refine ⟨D2, _, rfl, ⟨as, s2, s3⟩, hf2, by omega, ?_⟩
    rw [← eD]
    refine ⟨_, rfl, hT.ext s1, SeamPattern.Place, fun v x => PlAt H1 v x, kD D, L, us, q, rfl, SqL.of (s1 _ _ hq), paired_map (fun _ _ z => z.same s1) hp, PySem.W.AllAlike.of fun _ _ => by simp [kD, PySem.W.alike, PySem.W.alikeAll], PySem.W.Sortable.tuples fun _ => ⟨_, _, rfl⟩, fun b _ => ?_, fun H2 eN => ⟨fun y b H' ry hb S' => ?_, fun H' p ys S' hp' pz => ?_⟩⟩
    · have e : (kD D b).depth = 2 := by simp [kD, PyData.depth, PyData.depthAll]
      omega
    · obtain ⟨a, vp, rfl, ha, hvp⟩ := (ry.ext eN).same S'
      refine ⟨_, rfl, a, _, 0, .int b.1, rfl, rfl, SqT.of ha, atI_nat (j := 0) rfl, ?_⟩
      refine ⟨_, rfl, a, _, 1, vp, rfl, rfl, SqT.of ha, atI_nat (j := 1) rfl, by show 1 ≤ sizeLine; decide, fun l hl => ?_⟩
      have s3 := same_new hl (.lst [vp])
      have h3 : (upd H' l (.lst [vp])) l = some (.lst [vp]) := upd_same
      generalize upd H' l (.lst [vp]) = H3 at s3 h3 ⊢
      refine ⟨_, rfl, l, [b.2], D, rfl, ⟨[vp], h3, .cons (hvp.same s3) .nil⟩, fun p hp => by rw [List.mem_singleton.mp hp]; exact hf b hb, by show 1 ≤ 200; decide, d0, db, fun H4 p s4 hp4 hW => ?_⟩
      obtain ⟨ws, h5, p5⟩ := hW
      cases p5 with
      | cons t e =>
        cases e
        obtain ⟨x, rfl, hx⟩ := t
        refine ⟨p, _, 0, .ref x, rfl, rfl, SqL.of h5, atI_nat (j := 0) rfl, by show 2 ≤ sizeLine; decide, fun t ht => ⟨(s3.trans s4).trans (same_new ht _), ?_⟩⟩
        have hx' : (upd H4 t (.tup [.int (b.1 : Int), .ref x])) x = some (two (wholeP D b.2).1 (wholeP D b.2).2) := by
          rw [upd_ne (ne_of_none hx ht)]
          exact hx
        exact .tup (SqT.of upd_same) (.cons (.int _) (.cons (.tup (SqT.of hx') (.cons (.int _) (.cons (.int _) .nil))) .nil))
    · exact good H' p ys _ hp' (paired_map (fun _ _ z => (PlAt.ext z eN).same S') pz) pm pw
end
end SDP
set_option Elab.async false
set_option linter.all false
set_option maxRecDepth 100000
set_option maxHeartbeats 4000000
set_option exponentiation.threshold 100000
/-! # line_of, point_words -/
namespace SDP
open PySem PySem.Spec PyProof.Rows L2 SDX SD TL SR
open SeamNum (Bytes fits FINE Point fitsP decimal ascii)
open SeamPattern (numText spaced lineOf)
def strL (ws : List Bytes) : HO := .lst (ws.map fun b => V.str (tx b))
theorem join_flat : ∀ ps : List Bytes, Txt.join (Str.ofString "") (ps.map tx) = tx ps.flatten := fun ps => by
  rw [join_eq]
  refine ext_tl ?_
  rw [tl_join]
  have ee : tl (Str.ofString "") = [] := by decide +kernel
  rw [ee, List.map_map]
  have go : ∀ ps : List Bytes, joinL [] (ps.map (tl ∘ tx)) = ps.flatten.map UInt8.toNat := by
    intro ps
    induction ps with
    | nil => rfl
    | cons p r ih =>
      cases r with
      | nil =>
        show p.map UInt8.toNat = _
        simp
      | cons q r =>
        show p.map UInt8.toNat ++ ([] ++ joinL [] ((q :: r).map (tl ∘ tx))) = _
        rw [ih, List.nil_append, ← List.map_append]
        rfl
  exact go ps
theorem join_sp : ∀ ws : List Bytes, Txt.join (Str.ofString " ") (ws.map tx) = tx (spaced ws) := fun ws => by
  rw [join_eq]
  refine ext_tl ?_
  rw [tl_join]
  have ee : tl (Str.ofString " ") = [32] := by decide +kernel
  rw [ee, List.map_map]
  have go : ∀ ws : List Bytes, joinL [32] (ws.map (tl ∘ tx)) = (spaced ws).map UInt8.toNat := by
    intro ws
    induction ws with
    | nil => rfl
    | cons p r ih =>
      cases r with
      | nil => rfl
      | cons q r =>
        show p.map UInt8.toNat ++ ([32] ++ joinL [32] ((q :: r).map (tl ∘ tx))) = (p ++ (32 :: spaced (q :: r))).map UInt8.toNat
        rw [ih, List.map_append, List.map_cons]
        rfl
  exact go ws
theorem numText_len {q : Rat} (h : fits q = true) : (numText q).length ≤ 40 := by
  obtain ⟨fn, fd⟩ := fits_num h
  rw [numText_self]
  have l1 := fine_len fn
  have l2 := fine_len fd
  rw [List.length_append, List.length_append]
  have a : (if q.num < 0 then ([45] : Bytes) else []).length ≤ 1 := by split <;> simp
  have b : (if q.den = 1 then ([] : Bytes) else 47 :: decimal q.den).length ≤ 20 := by
    split
    · simp
    · simp only [List.length_cons]
      omega
  omega
theorem spaced_len : ∀ ws : List Bytes, (∀ b ∈ ws, b.length ≤ 60) → (spaced ws).length ≤ 61 * ws.length
  | [], _ => Nat.zero_le _
  | [b], h => by
    have := h b (by simp)
    show b.length ≤ 61 * 1
    omega
  | b :: c :: r, h => by
    have h1 := h b (by simp)
    have h2 := spaced_len (c :: r) fun x hx => h x (List.mem_cons_of_mem _ hx)
    show (b ++ (32 :: spaced (c :: r))).length ≤ _
    rw [List.length_append, List.length_cons]
    simp only [List.length_cons] at h2 ⊢
    omega
theorem line_len {ws : List Bytes} (h : ∀ b ∈ ws, b.length ≤ 60) : (lineOf ws).length ≤ 61 * ws.length + 1 := by
  unfold lineOf
  rw [List.length_append]
  have := spaced_len ws h
  simp only [List.length_singleton]
  omega
theorem sum_len : ∀ (ws : List Bytes) (m : Nat), (∀ b ∈ ws, b.length ≤ m) → ((ws.map tx).map (·.length)).sum ≤ m * ws.length
  | [], m, _ => by simp
  | b :: r, m, h => by
    have h1 := h b (by simp)
    have h2 := sum_len r m fun x hx => h x (List.mem_cons_of_mem _ hx)
    simp only [List.map_cons, List.sum_cons, List.length_cons, tx_len] at h2 ⊢
    rw [Nat.mul_succ]
    omega
section
variable {P : Program} {w : World} {K : PySem.W.Frag} {mg : Str → Option Value} {base : Heap}
def spLine : Sp := fun vs H Q _ => ∃ (l : Addr) (ws : List Bytes), vs = [.ref l] ∧ H l = some (strL ws) ∧ ws.length ≤ 10 ∧ (∀ b ∈ ws, b.length ≤ 60) ∧ Q (.str (tx (lineOf ws))) H
theorem scLine : FnScope ["words"] ["words"] (defScope S_line_of) := ⟨rfl, rfl, rfl, by decide +kernel, rfl, by decide +kernel, by decide +kernel⟩
theorem ok_line {f : Addr} {fd : FuncData} (F : Fn1 K mg "line_of" S_line_of ["words"] f fd) : FnOk P w K mg base CX0 1 f fd ["words"] spLine := by
  refine F.F.ok scLine (fun vs H Q E h => ?_) (fun cdv A outer s H vs Q E hr h => ?_)
  · obtain ⟨l, ws, rfl, _⟩ := h
    rfl
  obtain ⟨l, ws, rfl, hl, h10, h60, k⟩ := h
  refine ⟨_, pss_one (ps_ret (pe_op op_add_str (pe_bm PySem.F.plainAttrs_str PySem.F.slot_str_join PySem.F.type_str_join mt_join pe_str (pa_cons (pv 0) pa_nil)) pe_str)), ?_⟩
  have sl := sum_len ws 60 h60
  have sp := spaced_len ws h60
  have e1 : (ws.map tx).map V.str = ws.map fun b => V.str (tx b) := by rw [List.map_map]; rfl
  refine ⟨rfl, _, rfl, _, l, ws.map tx, rfl, rfl, .inl (by rw [e1]; exact SqL.of hl), ?_, ?_⟩
  · rw [List.length_map]
    have e : (Str.ofString " ").length = 1 := by decide +kernel
    rw [e]
    omega
  · rw [join_sp]
    have en : Str.ofString "\n" = tx [10] := by decide +kernel
    refine ⟨_, _, rfl, rfl, ?_, ?_⟩
    · rw [en, tx_len, tx_len, sizeLine_eq]
      simp only [List.length_singleton]
      omega
    · rw [en, tx_app]
      exact k
def spPW : Sp := fun vs H Q _ => ∃ (v : V) (p : Point), vs = [v] ∧ PtAt H v p ∧ fitsP p = true ∧ ∀ H' q, Same H H' → H q = none → H' q = some (strL [numText p.1, numText p.2]) → Q (.ref q) H'
theorem scPW : FnScope ["point", "number"] ["point"] (defScope S_point_words) := ⟨rfl, rfl, rfl, by decide +kernel, rfl, by decide +kernel, by decide +kernel⟩
theorem ok_pw {fT : Addr} {dT : FuncData} (FT : Fn1 K mg "number_text" S_number_text ["number"] fT dT) (ms : mg "str" = none) {f : Addr} {fd : FuncData} (F : Fn1 K mg "point_words" S_point_words ["point"] f fd) : FnOk P w K mg base CX0 2 f fd ["point"] spPW := by
  refine F.F.ok scPW (fun vs H Q E h => ?_) (fun cdv A outer s H vs Q E hr h => ?_)
  · obtain ⟨v, p, rfl, _⟩ := h
    rfl
  obtain ⟨v, p, rfl, ⟨a, vx, vy, rfl, ha, hx, hy⟩, hf, k⟩ := h
  refine ⟨_, pss_one (ps_ret (pe_lc (own := [("number", 1)]) (g := gName 1) (tt := tYes) (te := tCall spNumT [] E0 (tCons (tVar 1) tNil)) rfl scPW.nd (pi_tup (pv 0)) (blkOk_by (N := ["point", "number"]) (sc := defScope S_point_words) (by decide +kernel))
      (fun _ _ _ _ _ => pg_name (i := 1) scPW.nd rfl (Or.inl rfl)) (fun _ _ _ _ _ => pts_nil) (fun _ _ _ _ _ => pe_call (ok_numT FT ms) hr rfl FT.m FT.F.kp FT.b .nil pass0 (pa_cons (pv 1) pa_nil)))), ?_⟩
  have hf' : (fits p.1 && fits p.2) = true := hf
  rw [Bool.and_eq_true] at hf'
  refine ⟨_, rfl, a, rfl, ⟨_, SqT.of ha⟩, fun D hD => ?_⟩
  refine lc_tup (xs := [vx, vy]) (fun i H' => Same H H' ∧ H' D = some (strL ([numText p.1, numText p.2].take i))) ⟨same_new hD _, upd_same⟩ (fun i H' _ ⟨s, _⟩ => SqT.of (s _ _ ha)) (fun i x H' hi ⟨s1, s2⟩ => ?_) (fun H' ⟨s1, s2⟩ => k H' D s1 hD s2)
  have step : ∀ q : Rat, Nm H x q → fits q = true → [numText p.1, numText p.2][i]? = some (numText q) → i < 2 → ∃ y, V.str y = .str (tx (numText q)) ∧ tCall spNumT [] E0 (tCons (tVar 1) tNil) ((wipe (L2.start ["point", "number"] [V.ref a]) (List.map (fun x => x.2) [(("number" : Str), 1)])).set 1 (some x)) H' fun y H4 => ∃ acc, H4 D = some (.lst acc) ∧ acc.length < sizeLine ∧ (Same H (upd H4 D (.lst (acc ++ [y]))) ∧ (upd H4 D (.lst (acc ++ [y]))) D = some (strL ([numText p.1, numText p.2].take (i + 1)))) := by
    intro q hq hfq hget hi2
    refine ⟨_, rfl, _, rfl, x, q, rfl, Tw.same hq s1, hfq, _, s2, by rw [List.length_map, List.length_take, sizeLine_eq]; omega, fun b o hb => ?_, ?_⟩
    · rw [upd_ne (ne_of_none hb hD)]
      exact s1 b o hb
    · rw [upd_same, List.take_add_one, hget]
      unfold strL
      rw [List.map_append]
      rfl
  have hi2 : i < 2 := (List.getElem?_eq_some_iff.mp hi).1
  rcases (show i = 0 ∨ i = 1 by omega) with rfl | rfl
  · cases hi
    obtain ⟨_, _, h⟩ := step p.1 hx hf'.1 rfl (by decide)
    exact ⟨rfl, h⟩
  · cases hi
    obtain ⟨_, _, h⟩ := step p.2 hy hf'.2 rfl (by decide)
    exact ⟨rfl, h⟩
end
end SDP
set_option Elab.async false
set_option linter.all false
set_option maxRecDepth 100000
set_option maxHeartbeats 4000000
set_option exponentiation.threshold 100000
/-! # places_text -/
namespace SDP
open PySem PySem.Spec PyProof.Rows L2 SDX SD TL SR
open SeamNum (Bytes fits FINE Point fitsP decimal ascii)
open SeamPattern (numText spaced lineOf)
theorem str_nat (n : Nat) : Str.ofString (toString (n : Int)) = tx (decimal n) := by
  have e := str_int (n : Int)
  rw [if_neg (by omega), List.nil_append, Int.natAbs_natCast] at e
  exact e
theorem nat_log {n : Nat} (h : n ≤ FINE) : ((n : Int)).natAbs.log2 < 1920 := small_log (by rw [Int.natAbs_natCast]; exact h)
theorem strL_app (a b : List Bytes) : HO.lst ((a.map fun b => V.str (tx b)) ++ (b.map fun b => V.str (tx b))) = strL (a ++ b) := by
  unfold strL
  rw [List.map_append]
theorem two_len {p : Point} (h : fitsP p = true) : ∀ b ∈ ([numText p.1, numText p.2] : List Bytes), b.length ≤ 40 := by
  have h' : (fits p.1 && fits p.2) = true := h
  rw [Bool.and_eq_true] at h'
  intro b hb
  simp only [List.mem_cons, List.not_mem_nil, or_false] at hb
  rcases hb with z | z
  · rw [z]; exact numText_len h'.1
  · rw [z]; exact numText_len h'.2
theorem flat_len2 : ∀ {ls : List Bytes}, (∀ b ∈ ls, b.length ≤ 400) → ls.flatten.length ≤ 400 * ls.length
  | [], _ => Nat.zero_le _
  | b :: r, h => by
    have h1 := h b (by simp)
    have h2 := flat_len2 (ls := r) fun x hx => h x (List.mem_cons_of_mem _ hx)
    rw [List.flatten_cons, List.length_append, List.length_cons]
    omega
theorem place_len {y : SeamPattern.Place} (h : fitsP y.2 = true) (h8 : y.1 < 8) : (Drafts.placeLine y).length ≤ 400 ∧ ∀ b ∈ [decimal y.1, numText y.2.1, numText y.2.2], b.length ≤ 60 := by
  have wl : ∀ b ∈ [decimal y.1, numText y.2.1, numText y.2.2], b.length ≤ 60 := fun b hb => by
    have t := two_len h
    simp only [List.mem_cons, List.not_mem_nil, or_false] at hb t
    rcases hb with z | z | z
    · rw [z]
      have := fine_len (n := y.1) (Nat.le_trans (Nat.le_of_lt h8) (by decide))
      omega
    · rw [z]; exact Nat.le_trans (t _ (.inl rfl)) (by decide)
    · rw [z]; exact Nat.le_trans (t _ (.inr rfl)) (by decide)
  refine ⟨?_, wl⟩
  have := line_len wl
  simp only [List.length_cons, List.length_nil] at this
  unfold Drafts.placeLine
  omega
section
variable {P : Program} {w : World} {K : PySem.W.Frag} {mg : Str → Option Value} {base : Heap}
structure PlsT (K : PySem.W.Frag) (mg : Str → Option Value) : Prop where
  L : ∃ f d, Fn1 K mg "line_of" S_line_of ["words"] f d
  W : ∃ f d, Fn1 K mg "point_words" S_point_words ["point"] f d
  T : ∃ f d, Fn1 K mg "number_text" S_number_text ["number"] f d
  str : mg "str" = none
def spPlTxt : Sp := fun vs H Q _ => ∃ q us L, vs = [.ref q] ∧ H q = some (.lst us) ∧ Paired (PlAt H) us L ∧ L.length ≤ 129 ∧ (∀ y ∈ L, fitsP y.2 = true ∧ y.1 < 8) ∧
  ∀ H', (L.flatMap Drafts.placeLine).length ≤ 60000 → Q (.str (tx (L.flatMap Drafts.placeLine))) H'
theorem scPlTxt : FnScope ["places", "piece", "point"] ["places"] (defScope S_places_text) := ⟨rfl, rfl, rfl, by decide +kernel, rfl, by decide +kernel, by decide +kernel⟩
theorem ok_plTxt (T : PlsT K mg) {f : Addr} {fd : FuncData} (F : Fn1 K mg "places_text" S_places_text ["places"] f fd) : FnOk P w K mg base CX0 3 f fd ["places"] spPlTxt := by
  refine F.F.ok scPlTxt (fun vs H Q E h => ?_) (fun cdv A outer s H vs Q E hr h => ?_)
  · obtain ⟨q, us, L, rfl, _⟩ := h
    rfl
  obtain ⟨q, us, L, rfl, hq, hp, h129, hL, good⟩ := h
  have hr1 : Room 1 _ := hr.mono (by decide)
  obtain ⟨_, _, FL⟩ := T.L
  obtain ⟨_, _, FW⟩ := T.W
  obtain ⟨_, _, FT⟩ := T.T
  have ms := T.str
  refine ⟨_, pss_one (ps_ret (pe_bm PySem.F.plainAttrs_str PySem.F.slot_str_join PySem.F.type_str_join mt_join pe_str (pa_cons (pe_lc (own := [("piece", 1), ("point", 2)]) (g := gTup K 2 (gCons (gName 1) (gCons (gName 2) gNil))) (tt := tYes) rfl scPlTxt.nd (pi_list (pv 0)) (blkOk_by (N := ["places", "piece", "point"]) (sc := defScope S_places_text) (by decide +kernel))
      (fun _ _ _ _ _ => pg_tup rfl (pgs_cons (pg_name (i := 1) scPlTxt.nd rfl (Or.inl rfl)) (pgs_cons (pg_name (i := 2) scPlTxt.nd rfl (Or.inl rfl)) pgs_nil))) (fun _ _ _ _ _ => pts_nil)
      (fun _ _ _ _ _ => pe_call (ok_line FL) hr1 rfl FL.m FL.F.kp FL.b .nil pass0 (pa_cons (pe_op op_cat (pe_lst (pa_cons (pe_callTy call_str_int rfl ms (by decide +kernel) (pa_cons (pv 1) pa_nil)) pa_nil)) (pe_call (ok_pw FT ms FW) hr rfl FW.m FW.F.kp FW.b .nil pass0 (pa_cons (pv 2) pa_nil))) pa_nil))) pa_nil))), ?_⟩
  have len := Paired.length hp
  have ll : (L.map Drafts.placeLine).length = L.length := List.length_map _
  refine ⟨rfl, _, rfl, q, rfl, ⟨_, SqL.of hq⟩, fun D2 hD2 => ?_⟩
  refine lc_list (xs := us) (fun i H' => Same H H' ∧ H' D2 = some (strL ((L.map Drafts.placeLine).take i))) ⟨same_new hD2 _, upd_same⟩ (fun i H' _ ⟨s, _⟩ => SqL.of (s _ _ hq)) (fun i v H' hi ⟨s1, s2⟩ => ?_) (fun H1 ⟨s1, s2⟩ => ?_)
  · obtain ⟨y, hy, a, vp, rfl, ha, hvp⟩ := paired_fst hp i v hi
    obtain ⟨fy, y8⟩ := hL y (List.mem_of_getElem? hy)
    obtain ⟨pl, wl⟩ := place_len fy y8
    refine ⟨a, _, rfl, SqT.of (s1 _ _ ha), rfl, _, _, rfl, _, _, rfl, rfl, ?_⟩
    refine ⟨rfl, _, rfl, y.1, rfl, nat_log (Nat.le_trans (Nat.le_of_lt y8) (by decide)), by show 1 ≤ sizeLine; decide, fun p1 hp1 => ?_⟩
    rw [str_nat]
    have s2' : Same H' (upd H' p1 (.lst [.str (tx (decimal y.1))])) := same_new hp1 _
    have h2 : (upd H' p1 (.lst [.str (tx (decimal y.1))])) p1 = some (strL [decimal y.1]) := by rw [upd_same]; rfl
    generalize upd H' p1 (.lst [.str (tx (decimal y.1))]) = H2 at s2' h2 ⊢
    have s12 := s1.trans s2'
    refine ⟨_, rfl, vp, y.2, rfl, hvp.same s12, fy, fun H3 q2 s3 hq2 h3 => ?_⟩
    have s13 := s12.trans s3
    refine ⟨p1, q2, _, _, rfl, rfl, s3 _ _ h2, h3, by show 1 + 2 ≤ sizeLine; decide, fun q3 hq3 => ?_⟩
    have s4 : Same H3 (upd H3 q3 (.lst ((([decimal y.1] : List Bytes).map fun b => V.str (tx b)) ++ ([numText y.2.1, numText y.2.2].map fun b => V.str (tx b))))) := same_new hq3 _
    have h4 : (upd H3 q3 (.lst ((([decimal y.1] : List Bytes).map fun b => V.str (tx b)) ++ ([numText y.2.1, numText y.2.2].map fun b => V.str (tx b))))) q3 = some (strL [decimal y.1, numText y.2.1, numText y.2.2]) := upd_same
    generalize upd H3 q3 (.lst ((([decimal y.1] : List Bytes).map fun b => V.str (tx b)) ++ ([numText y.2.1, numText y.2.2].map fun b => V.str (tx b)))) = H4 at s4 h4 ⊢
    have s14 := s13.trans s4
    refine ⟨q3, _, rfl, h4, by show 3 ≤ 10; decide, wl, ?_⟩
    have h24 : H4 D2 = some (strL ((L.map Drafts.placeLine).take i)) := s4 _ _ (s3 _ _ (s2' _ _ s2))
    have ey : (L.map Drafts.placeLine)[i]? = some (Drafts.placeLine y) := by rw [List.getElem?_map, hy]; rfl
    refine ⟨_, h24, by rw [List.length_map, List.length_take, sizeLine_eq]; omega, fun b o hb => ?_, ?_⟩
    · rw [upd_ne (ne_of_none hb hD2)]
      exact s14 b o hb
    · rw [upd_same, List.take_add_one, ey]
      exact congrArg some (strL_app _ [_])
  · rw [List.take_of_length_le (by rw [List.length_map, len]; exact Nat.le_refl _)] at s2
    have fl := flat_len2 (ls := L.map Drafts.placeLine) fun b hb => by
      obtain ⟨y, hy, rfl⟩ := List.mem_map.mp hb
      exact (place_len (hL y hy).1 (hL y hy).2).1
    rw [ll] at fl
    have e2 : (L.map Drafts.placeLine).flatten = L.flatMap Drafts.placeLine := (List.flatMap_def ..).symm
    have e1 : ((L.map Drafts.placeLine).map tx).map V.str = (L.map Drafts.placeLine).map fun b => V.str (tx b) := by rw [List.map_map]; rfl
    have sl := sum_len (L.map Drafts.placeLine) 400 fun b hb => by
      obtain ⟨y, hy, rfl⟩ := List.mem_map.mp hb
      exact (place_len (hL y hy).1 (hL y hy).2).1
    refine ⟨_, D2, (L.map Drafts.placeLine).map tx, rfl, rfl, .inl (by rw [e1]; exact SqL.of s2), ?_, ?_⟩
    · rw [List.length_map]
      have e : (Str.ofString "").length = 0 := by decide +kernel
      rw [e]
      omega
    · rw [join_flat, e2]
      rw [e2] at fl
      exact good _ (by omega)
end
end SDP
set_option Elab.async false
set_option linter.all false
set_option maxRecDepth 100000
set_option maxHeartbeats 4000000
set_option exponentiation.threshold 100000
/-! # check_place -/
namespace SDP
open PySem PySem.Spec PyProof.Rows L2 SDX SD TL SR
open SeamNum (Bytes fits FINE Point fitsP)
open SeamPattern (Edge Seam)
section
variable {P : Program} {w : World} {K : PySem.W.Frag} {mg : Str → Option Value} {base : Heap} {D : PAd} {R : RefAd} {Y : PaF}
structure PlaceT (K : PySem.W.Frag) (mg : Str → Option Value) (cL : Addr) : Prop where
  E : ∃ f d, ErrC K mg "NoPlace" cL f ∧ L2.Fun K "__init__" "NoPlace.__init__" S_NoPlace_I f d ∧ L2.Binds K d ["self"] []
theorem scPlace8 : FnScope ["self"] ["self"] (defScope S_NoPlace_I) := ⟨rfl, rfl, rfl, by decide +kernel, rfl, by decide +kernel, by decide +kernel⟩
theorem ok_place8 {f f1 C1 : Addr} {fd fd1 : FuncData} {mc : Value} (F : L2.Fun K "__init__" "NoPlace.__init__" S_NoPlace_I f fd) (F1 : L2.Fun K "__init__" "Refusal.__init__" sRefI f1 fd1) (b1 : L2.Binds K fd1 ["self", "number", "signed"] [])
    (g1 : mg "Refusal" = some (.ref C1)) (cr : ClX.CRead K C1 mc) (cv : PySem.W.findCls K (.ref C1) mc "__init__" = some (.val (.ref f1)))
    (mE : mg "Exception" = none) (vE : PySem.W.findCls K (.type "Exception") (.type "type") "__init__" = some (.val (.builtin "Exception.__init__"))) :
    FnOk P w K mg base CX0 2 f fd ["self"] (spNul K (-4)) := by
  refine F.ok scPlace8 (fun vs H Q E h => ?_) (fun cdv A outer s H vs Q E hr h => ?_)
  · obtain ⟨a, C, rfl, _⟩ := h
    rfl
  obtain ⟨a, C, rfl, T, hn, hs, ha, q⟩ := h
  refine ⟨_, pss_one (ps_expr (pe_cfun (ok_refI F1 mE vE) hr rfl g1 cr cv F1.kp b1 .nil pass0 (pa_cons (pv 0) (pa_cons (pe_un un_neg pe_int) (pa_cons (pe_lst pa_nil) pa_nil))))), ?_⟩
  exact ⟨_, rfl, _, rfl, (by show 0 ≤ sizeLine; decide), fun l hl => nul_pure (E := E0) ha T hn hs q l hl⟩
def spChk (D : PAd) (Y : PaF) (cL : Addr) : Sp := fun vs H Q E => ∃ r pl sl vcs ps ss, ∃ (k : Nat) (v : V) (q : Point), vs = [.ref r, .int k, v] ∧ PatS D.CT D.CP H r pl sl vcs ps ss ∧ PtAt H v q ∧ fitsP q = true ∧ SR.PatFine ⟨ps, ss⟩ ∧
  ((⟨ps, ss⟩ : SeamPattern.Pattern).has (k, q) = true → k < ps.length → ∀ H', Same H H' → Q .non H') ∧ ((⟨ps, ss⟩ : SeamPattern.Pattern).has (k, q) = false → Rs Y.cN E (-4) [] ∧ Rs cL E (-4) [])
theorem scChk : FnScope ["pattern", "k", "point"] ["pattern", "k", "point"] (defScope S_check_place) := ⟨rfl, rfl, rfl, by decide +kernel, rfl, by decide +kernel, by decide +kernel⟩
theorem ok_chk {cL fM fO f : Addr} {dM dO fd : FuncData} (RC : RefC K mg R) (C : PatC K mg D) (T2 : PaT K mg R Y) (TL : PlaceT K mg cL) (WT : WhT K mg) (AT : AwT K mg) (ml : mg "len" = none) (OUT : Gi mg "OUTSIDE" 0)
    (FM : Fn1 K mg "where_among" S_where_among ["whole", "spot"] fM dM) (FO : Fn1 K mg "where_lies" S_where_lies ["corners", "point"] fO dO) (F : Fn1 K mg "check_place" S_check_place ["pattern", "k", "point"] f fd) : FnOk P w K mg base (L2N.CX P w) 8 f fd ["pattern", "k", "point"] (spChk D Y cL) := by
  refine okN F.F scChk (fun vs H Q E h => ?_) (fun cdv A0 outer s H vs Q E hr h => ?_)
  · obtain ⟨r, pl, sl, vcs, ps, ss, k, v, q, rfl, _⟩ := h
    rfl
  obtain ⟨r, pl, sl, vcs, ps, ss, k, v, q, rfl, S, hv, fq, PF, good, bad⟩ := h
  have hr3 : Room 3 _ := hr.mono (by decide)
  have hr4 : Room 4 _ := hr.mono (by decide)
  have hr5 : Room 5 _ := hr.mono (by decide)
  have tk := L2N.takes_of (X := cxOf (L2N.CX P w) P w K mg base ["pattern", "k", "point"] "check_place" (defScope S_check_place) f cdv A0 outer s H E) (E := E) rfl rfl rfl rfl
  obtain ⟨_, _, EL, FL, bL⟩ := TL.E
  refine ⟨_, pss_one (ps_if (pt_cmpR op_eq (pe_call (ok_lies FO FM WT AT) hr5 rfl FO.m FO.F.kp FO.b .nil pass0 (pa_cons (pe_fld (pe_call (ok_pieceAt RC C T2 ml) hr4 rfl T2.P.m T2.P.F.kp T2.P.b .nil passN (pa_cons (pv 0) (pa_cons (pv 1) pa_nil))) rfl) (pa_cons (pv 2) pa_nil))) (pe_gi rfl OUT) (nomark _))
    (pss_one (L2N.ps_raise rfl tk (pmk_exN0 EL.ex EL.iC EL.tI (ok_place8 FL RC.FRef RC.bRef RC.ref.g RC.cr RC.cv RC.mE RC.vE) hr3 bL pass0 rfl EL.g))) pss_nil), ?_⟩
  refine ⟨_, rfl, _, rfl, r, pl, sl, vcs, ps, ss, k, rfl, S, fun p v2 cl hp hpc => ?_, fun hp => ?_⟩
  · have kl : k < ps.length := (List.getElem?_eq_some_iff.mp hp).1
    obtain ⟨a, dx, g, rfl, ei, hg, hrow⟩ := hpc
    have er := row_is (ss := ss) hp
    have rf : RowFine p.row := by
      have := PF.rows k kl
      rw [er] at this
      exact this
    have hh : (⟨ps, ss⟩ : SeamPattern.Pattern).has (k, q) = SeamPoly.holds p.row q := by
      unfold SeamPattern.Pattern.has
      rw [er, decide_eq_true kl, Bool.true_and]
    refine ⟨a, D.CP, dx, _, _, rfl, ei, C.clP, C.nPc, rfl, _, rfl, cl, p.row, v, q, rfl, hrow, hv, rf, fq, fun H1 s1 => ?_⟩
    rw [hh] at good bad
    have wo := whereR_out p.row q
    have dz : ∀ z : Int, decide (V.int z = V.int 0) = decide (z = 0) := fun z => by
      rw [Bool.eq_iff_iff, decide_eq_true_eq, decide_eq_true_eq]
      exact ⟨fun e => by cases e; rfl, fun e => by rw [e]⟩
    refine ⟨rfl, ?_⟩
    rw [dz]
    cases ho : SeamPoly.holds p.row q with
    | true =>
      have e : decide (whereR p.row q = 0) = false := decide_eq_false fun z => by rw [wo.mp z] at ho; cases ho
      rw [e]
      exact ⟨_, rfl, iteF (good ho kl H1 s1)⟩
    | false =>
      rw [decide_eq_true (wo.mpr ho)]
      exact ⟨_, rfl, iteT (mk_nul EL (bad ho).2)⟩
  · refine (bad ?_).1
    unfold SeamPattern.Pattern.has
    rw [decide_eq_false (by have := List.getElem?_eq_none_iff.mp hp; show ¬ k < ps.length; omega), Bool.false_and]
end
end SDP
set_option Elab.async false
set_option linter.all false
set_option maxRecDepth 100000
set_option maxHeartbeats 4000000
namespace SDP
open PySem PySem.Spec PyProof.Rows L2 SDX SD TL
open SeamNum (Bytes)
section
variable {P : Program} {w : World} {K : PySem.W.Frag} {mg : Str → Option Value} {base : Heap}
/-! ### bytes_of -/
def spBytesOf : Sp := fun vs H Q _ => ∃ b : Bytes, vs = [.str (tx b)] ∧ b.length ≤ 10000000 ∧ ∀ H' p, Same H H' → H p = none → H' p = some (.lst (b.map fun c => V.int (c.toNat : Int))) → Q (.ref p) H'
theorem scBytesOf : FnScope ["text", "sign"] ["text"] (defScope S_bytes_of) := ⟨rfl, rfl, rfl, by decide +kernel, rfl, by decide +kernel, by decide +kernel⟩
theorem ok_bytesOf {f : Addr} {fd : FuncData} (F : Fn1 K mg "bytes_of" S_bytes_of ["text"] f fd) (mo : mg "ord" = none) : FnOk P w K mg base CX0 1 f fd ["text"] spBytesOf := by
  refine F.F.ok scBytesOf (fun vs H Q E h => ?_) (fun cdv A outer s H vs Q E hr h => ?_)
  · obtain ⟨b, rfl, _⟩ := h
    rfl
  obtain ⟨b, rfl, hl, k⟩ := h
  refine ⟨_, pss_one (ps_ret (pe_lc (own := [("sign", 1)]) (g := gName 1) (tt := tYes) rfl scBytesOf.nd (pi_str (pv 0)) (blkOk_by (N := ["text", "sign"]) (sc := defScope S_bytes_of) (by decide +kernel))
      (fun _ _ _ _ _ => pg_name (i := 1) scBytesOf.nd rfl (Or.inl rfl)) (fun _ _ _ _ _ => pts_nil) (fun _ _ _ _ _ => pe_callB call_ord rfl mo PyProof.Rows.boot_ord (pa_cons (pv 1) pa_nil)))), ?_⟩
  have hlen : (tx b).cps.size = b.length := by show ((b.map UInt8.toNat).toArray).size = _; simp
  refine ⟨_, rfl, _, rfl, fun D2 hD2 => ?_⟩
  refine lc_it walk_str (fun i H' => Same H H' ∧ H' D2 = some (.lst ((b.take i).map fun c => V.int (c.toNat : Int)))) ⟨same_new hD2 _, upd_same⟩ (fun _ _ _ _ => True.intro) (fun i x H1 H2 hi ⟨s1, s2⟩ hy => ?_) (fun H1 ⟨s1, s2⟩ => ?_)
  · obtain ⟨rfl, c, hc, rfl⟩ := hy
    rw [hlen] at hi
    have ec : b[i]? = some b[i] := List.getElem?_eq_getElem hi
    have ec2 : c = b[i].toNat := by
      have z := tx_get ec
      rw [hc] at z
      exact Option.some.inj z
    subst ec2
    refine ⟨rfl, _, rfl, _, rfl, rfl, _, s2, by rw [List.length_map, List.length_take, sizeLine_eq]; omega, ?_, ?_⟩
    · intro b' o hb
      rw [upd_ne (ne_of_none hb hD2)]
      exact s1 b' o hb
    · rw [upd_same, List.take_add_one, ec, List.map_append]
      rfl
  · rw [hlen, List.take_length] at s2
    exact k _ D2 s1 hD2 s2
end
end SDP
set_option Elab.async false
set_option linter.all false
set_option maxRecDepth 100000
set_option maxHeartbeats 4000000
set_option exponentiation.threshold 100000
/-! # ones -/
namespace SDP
open PySem PySem.Spec PyProof.Rows L2 SDX SD TL SR
open SeamNum (Bytes fits fitsP)
open SeamPattern (readPattern)
section
variable {P : Program} {w : World} {K : PySem.W.Frag} {mg : Str → Option Value} {base : Heap} {D : PAd} {A : AddF} {R : RefAd} {Z : ReadF} {Y : PaF} {U : PnF}
def onesTold (P : SeamPattern.Pattern) (x : SeamPattern.Place) : List Int := if ((P.ones x).all fun z => fitsP z.2) = true then (((P.ones x).flatMap Drafts.placeLine).length : Int) :: (((P.ones x).flatMap Drafts.placeLine).length : Int) :: (((P.ones x).flatMap Drafts.placeLine).map (fun c => (c.toNat : Int)) ++ [0]) else [-6, 0, 0]
def onesOut (k : Nat) (a b c d : Int) (t : Bytes) : List Int := if 4096 < t.length then [-1, 0, 0] else match Drafts.pointOf a b c d with
  | none => [-1, 0, 0]
  | some q => match readPattern t with
    | .error n => [-2, 0, 2, (n : Int), 0]
    | .ok P => if P.has (k, q) = false then [-4, 0, 0] else onesTold P (k, q)
def spOnes (K : PySem.W.Frag) (tP : Addr) : Sp := fun vs H Q _ => ∃ (k : Nat) (xa xb ya yb : Int) (a : Addr) (b : Bytes), vs = [.int k, .int xa, .int xb, .int ya, .int yb, .ref a] ∧ LamX.Tabs (tabT tP) H ∧ xa.natAbs < 2 ^ 100 ∧ xb.natAbs < 2 ^ 100 ∧ ya.natAbs < 2 ^ 100 ∧ yb.natAbs < 2 ^ 100 ∧ BytesL K H a b ∧ b.length ≤ 4200 ∧ ∀ (H' : Hp) (p : Addr), H' p = some (.lst ((onesOut k xa xb ya yb b).map V.int)) → Q (.ref p) H'
/-- what stands behind an error of the class C -/
structure ErT (K : PySem.W.Frag) (mg : Str → Option Value) (R : RefAd) (x : String) (C : Addr) : Prop where
  E : ∃ f, ErrC K mg x C f
  x : PySem.W.exmOne K (.ref C) (.ref R.cRef) = some true
theorem scOnes8 : FnScope ["k", "x_above", "x_below", "y_above", "y_below", "p", "point", "pattern", "places", "e", "told"] ["k", "x_above", "x_below", "y_above", "y_below", "p"] (defScope S_ones) := ⟨rfl, rfl, rfl, by decide +kernel, rfl, by decide +kernel, by decide +kernel⟩
theorem ok_ones {cL cF tP : Addr} (T : ReadT K mg P base D A R Z) (T2 : PaT K mg R Y) (T3 : PnT K mg R P base U) (WT : WhT K mg) (AT : AwT K mg) (TL : PlaceT K mg cL) (EL : ErT K mg R "NoPlace" cL) (EF : ErT K mg R "TooFine" cF) (TO : OneT K mg P base D R cF)
    {fI : Addr} {dI : FuncData} (FI : Fn1 K mg "in_order" S_in_order ["places"] fI dI) (okI : FnOk P w K mg base CX0 8 fI dI ["places"] (spInOrder tP)) (TP : PlsT K mg) (OUT : Gi mg "OUTSIDE" 0)
    {fA fC fM fO fB fK fN fT f : Addr} {dA dC dM dO dB dK dN dT fd : FuncData} (FA : Fn1 K mg "answer" sAnsw ["number", "told", "signed"] fA dA) (FC : Fn1 K mg "check_lengths" sCheck ["texts"] fC dC) (LT : Gi mg "LONGEST_TEXT" 4096)
    (FM : Fn1 K mg "where_among" S_where_among ["whole", "spot"] fM dM) (FO : Fn1 K mg "where_lies" S_where_lies ["corners", "point"] fO dO) (FB : Fn1 K mg "bytes_of" S_bytes_of ["text"] fB dB) (mo : mg "ord" = none)
    (FK : Fn1 K mg "check_place" S_check_place ["pattern", "k", "point"] fK dK) (FN : Fn1 K mg "places_one_with" S_places_one_with ["pattern", "place"] fN dN) (FT : Fn1 K mg "places_text" S_places_text ["places"] fT dT)
    (F : Fn1 K mg "ones" S_ones ["k", "x_above", "x_below", "y_above", "y_below", "p"] f fd) : FnOk P w K mg base CX0 39 f fd ["k", "x_above", "x_below", "y_above", "y_below", "p"] (spOnes K tP) := by
  refine F.F.ok scOnes8 (fun vs H Q E h => ?_) (fun cdv A0 outer s H vs Q E hr h => ?_)
  · obtain ⟨k, xa, xb, ya, yb, a, b, rfl, _⟩ := h
    rfl
  obtain ⟨k, xa, xb, ya, yb, pa, b, rfl, hT, ba, bb, bc, bd, hB, hb, good⟩ := h
  have hr1 : Room 1 _ := hr.mono (by omega)
  have hr3 : Room 3 _ := hr.mono (by omega)
  have hr4 : Room 4 _ := hr.mono (by omega)
  have hr8 : Room 8 _ := hr.mono (by omega)
  have hr35 : Room 35 _ := hr.mono (by omega)
  have hr37 : Room 37 _ := hr.mono (by omega)
  have ml := T.E.T.len
  have C := T.E.C
  have okN8 := ok_ones1 (w := w) TO FI okI FN
  have okK := ok_chk (P := P) (w := w) (base := base) T.RC C T2 TL WT AT ml OUT FM FO FK
  refine ⟨_, pss_cons (L2N.ps_try_as (i := 9) (tb := fun W => tSeq (tDrop (tCallS (spCheck K R) (WE W) (tCons (tLst (tCons (tVar 5) tNil)) tNil))) (tSeq (tAsg (tCallS (spPtIn U) (WE W) (tCons (tVar 1) (tCons (tVar 2) (tCons (tVar 3) (tCons (tVar 4) tNil))))) (gName 6)) (tSeq (tAsg (tCallS (spReadP K D Z.cNo) (WE W) (tCons (tVar 5) tNil)) (gName 7))
        (tSeq (tDrop (tCallS (spChk D Y cL) (WE W) (tCons (tVar 7) (tCons (tVar 0) (tCons (tVar 6) tNil))))) (tAsg (tCallS (spOneW D cF tP) (WE W) (tCons (tVar 7) (tCons (tTup (tCons (tVar 0) (tCons (tVar 6) tNil))) tNil))) (gName 8))))))
      (ts := fun a cls d => tRet (tCallS spAnsw (fun _ => E0) (tCons (tXfA K a cls d "number" (tVar 9)) (tCons (tLst tNil) (tCons (tXfA K a cls d "signed" (tVar 9)) tNil))))) (Wout := fun _ _ _ _ => False) rfl rfl scOnes8.nd rfl rfl ⟨rfl, by decide, Or.inl T.RC.ref.g⟩ takesN0
      (fun W pn xe tk _ => pss_cons (ps_expr (by exact (pe_callS (ok_check T.RC FC ml LT) hr4 rfl FC.m FC.F.kp FC.b (fun σ => L2N.passAt tk σ) (by exact (pa_cons (pe_lst (pa_cons (pv 5) pa_nil)) pa_nil)))))
        (pss_cons (ps_set (i := 6) scOnes8.nd rfl (Or.inl rfl) (by exact (pe_callS (ok_ptIn T.RC T3) hr35 rfl T3.I.m T3.I.F.kp T3.I.b (fun σ => L2N.passAt tk σ) (by exact (pa_cons (pv 1) (pa_cons (pv 2) (pa_cons (pv 3) (pa_cons (pv 4) pa_nil))))))))
        (pss_cons (ps_set (i := 7) scOnes8.nd rfl (Or.inl rfl) (by exact (pe_callS (ok_readP T) hr rfl T.RP.m T.RP.F.kp T.RP.b (fun σ => L2N.passAt tk σ) (by exact (pa_cons (pv 5) pa_nil)))))
        (pss_cons (ps_expr (by exact (pe_callS okK hr8 rfl FK.m FK.F.kp FK.b (fun σ => L2N.passAt tk σ) (by exact (pa_cons (pv 7) (pa_cons (pv 0) (pa_cons (pv 6) pa_nil)))))))
        (pss_one (ps_set (i := 8) scOnes8.nd rfl (Or.inl rfl) (by exact (pe_callS okN8 hr37 rfl FN.m FN.F.kp FN.b (fun σ => L2N.passAt tk σ) (by exact (pa_cons (pv 7) (pa_cons (pe_tup (pa_cons (pv 0) (pa_cons (pv 6) pa_nil))) pa_nil)))))))))))
      (fun a oe cls d pn hz hf => pss_one (ps_ret (by exact (L2H.pe_callH (ok_answH FA ml) (roomH_mk hr1 _) (hot_suite hz hf) rfl FA.m FA.F.kp FA.b (fun σ => passAt0 σ) (by exact (pa_cons (pe_xfA hz hf (pv 9)) (pa_cons (pe_lst pa_nil) (pa_cons (pe_xfA hz hf (pv 9)) pa_nil)))))))))
    (pss_cons (ps_set (i := 10) scOnes8.nd rfl (Or.inl rfl) (pe_call (ok_bytesOf FB mo) hr1 rfl FB.m FB.F.kp FB.b .nil pass0 (pa_cons (pe_call (ok_plTxt TP FT) hr3 rfl FT.m FT.F.kp FT.b .nil pass0 (pa_cons (pv 8) pa_nil)) pa_nil)))
    (pss_one (ps_ret (pe_call (ok_answ FA ml) hr1 rfl FA.m FA.F.kp FA.b .nil pass0 (pa_cons (pe_callB call_len_seq rfl ml PySem.boot_len (pa_cons (pv 10) pa_nil)) (pa_cons (pv 10) (pa_cons (pe_lst pa_nil) pa_nil))))))), ?_⟩
  have bl : ∃ xs, SqL K H pa xs ∧ xs.length = b.length := ⟨_, hB, List.length_map _⟩
  refine ⟨_, rfl, by show 1 ≤ sizeLine; decide, fun tp htp => ?_⟩
  have s1 : Same H (upd H tp (.lst [.ref pa])) := same_new htp _
  have ht : (upd H tp (.lst [.ref pa])) tp = some (.lst ([pa].map V.ref)) := upd_same
  generalize upd H tp (.lst [.ref pa]) = H1 at s1 ht ⊢
  refine ⟨tp, [pa], [b.length], rfl, ht, .cons (let ⟨xs, h1, h2⟩ := bl; ⟨xs, s1.seq h1, h2⟩) .nil, fun c => ?_, fun c => ?_⟩
  · have c' : b.length ≤ 4096 := c _ (by simp)
    unfold onesOut at good
    rw [if_neg (by omega)] at good
    refine ⟨_, rfl, _, rfl, _, rfl, _, rfl, xa, xb, ya, yb, rfl, ba, bb, bc, bd, fun q H2 v eq s2 hq => ?_, fun en => ?_⟩
    · rw [eq] at good
      have s12 := s1.trans s2
      refine ⟨_, rfl, pa, b, rfl, s12.seq hB, hb, fun Pt H3 r pl sl vcs eb s3 S Fi h43 => ?_, fun n eb => ?_⟩
      · rw [eb] at good
        simp only at good
        have pf := patFine (readPattern_right eb)
        have fq := pointOf_fits eq
        have s13 := s12.trans s3
        refine ⟨_, rfl, _, rfl, _, rfl, r, pl, sl, vcs, Pt.pieces, Pt.seams, k, v, q, rfl, S, hq.same s3, fq, pf, fun hh kl H4 s4 => ?_, fun hh => ?_⟩
        · have hh' : Pt.has (k, q) = true := hh
          rw [hh', if_neg (by decide)] at good
          refine ⟨_, rfl, _, rfl, _, rfl, by show 2 ≤ sizeLine; decide, fun tx5 h5n => ?_⟩
          have s5 := same_new h5n (.tup [.int (k : Int), v])
          have h5 : (upd H4 tx5 (.tup [.int (k : Int), v])) tx5 = some (.tup [.int (k : Int), v]) := upd_same
          generalize upd H4 tx5 (.tup [.int (k : Int), v]) = H5 at s5 h5 ⊢
          have s35 := s4.trans s5
          have s05 := s13.trans s35
          have hx : PlAt H5 (.ref tx5) (k, q) := ⟨tx5, v, rfl, h5, (hq.same s3).same s35⟩
          refine ⟨r, pl, sl, vcs, Pt.pieces, Pt.seams, .ref tx5, (k, q), rfl, hT.ext s05, S.same s35, hx, fq, pf, kl, fun H6 q6 us L h6 p6 eL fL l129 => ?_, fun y hy hf => ?_⟩
          · have fL2 : ∀ y ∈ L, fitsP y.2 = true ∧ y.1 < 8 := fun y hy => ⟨(fL y hy).1, Nat.lt_of_lt_of_le (fL y hy).2 pf.most⟩
            refine ⟨_, rfl, q6, us, L, rfl, h6, p6, l129, fL2, fun H7 hlen => ?_⟩
            refine ⟨_, rfl, by omega, fun H8 p8 s8 hp8 h8 => ?_⟩
            refine ⟨_, rfl, p8, _, rfl, .inl (SqL.of h8), _, rfl, by show 0 ≤ sizeLine; decide, fun q9 hq9 => ?_⟩
            refine ⟨_, p8, q9, _, [], rfl, by rw [upd_ne (ne_of_none h8 hq9)]; exact h8, upd_same, by rw [List.length_map]; omega, Nat.zero_le _, fun H10 p10 _ e => good H10 p10 ?_⟩
            rw [e]
            have al : (Pt.ones (k, q)).all (fun z => fitsP z.2) = true := List.all_eq_true.mpr fun y hy => (fL y (by rw [eL]; exact hy)).1
            unfold onesTold
            rw [if_pos al]
            have eL' : L = Pt.ones (k, q) := eL
            rw [← eL', List.length_map, List.map_cons, List.map_cons, List.map_append, List.map_map]
            simp only [List.map_cons, List.map_nil, List.append_assoc, List.cons_append, List.nil_append, List.append_nil, List.length_nil]
            rfl
          · have al : ¬ (Pt.ones (k, q)).all (fun z => fitsP z.2) = true := fun z => by
              have := List.all_eq_true.mp z y hy
              rw [hf] at this
              cases this
            unfold onesTold at good
            rw [if_neg al] at good
            obtain ⟨fF, ef⟩ := EF.E
            intro d l H9 ed el
            refine ⟨true, EF.x, fun _ a0 _ => ?_, fun q => Bool.noConfusion q⟩
            refine ⟨_, rfl, rfl, cF, rfl, ef.xf, ef.noN, d, _, _, rfl, ed, rfl, (by show 0 ≤ sizeLine; decide), fun p1 hp1 => ?_⟩
            refine ⟨_, rfl, rfl, cF, rfl, ef.xf, ef.noS, d, _, _, rfl, by rw [upd_ne (ne_of_none ed hp1)]; exact ed, rfl, ?_⟩
            refine ⟨-6, p1, l, [], _, rfl, upd_same, by rw [upd_ne (ne_of_none el hp1)]; exact el, Nat.zero_le _, Nat.zero_le _, fun H3 p _ e2 => good H3 p ?_⟩
            rw [e2]
            rfl
        · have hh' : Pt.has (k, q) = false := hh
          rw [hh', if_pos rfl] at good
          obtain ⟨fL, el0⟩ := EL.E
          refine ⟨?_, ?_⟩
          · skip
            intro d l H9 ed el
            refine ⟨true, T2.xN, fun _ a0 _ => ?_, fun q => Bool.noConfusion q⟩
            refine ⟨_, rfl, rfl, Y.cN, rfl, T2.no.xf, T2.no.noN, d, _, _, rfl, ed, rfl, (by show 0 ≤ sizeLine; decide), fun p1 hp1 => ?_⟩
            refine ⟨_, rfl, rfl, Y.cN, rfl, T2.no.xf, T2.no.noS, d, _, _, rfl, by rw [upd_ne (ne_of_none ed hp1)]; exact ed, rfl, ?_⟩
            refine ⟨-4, p1, l, [], _, rfl, upd_same, by rw [upd_ne (ne_of_none el hp1)]; exact el, Nat.zero_le _, Nat.zero_le _, fun H3 p _ e2 => good H3 p ?_⟩
            rw [e2]
            rfl
          · skip
            intro d l H9 ed el
            refine ⟨true, EL.x, fun _ a0 _ => ?_, fun q => Bool.noConfusion q⟩
            refine ⟨_, rfl, rfl, cL, rfl, el0.xf, el0.noN, d, _, _, rfl, ed, rfl, (by show 0 ≤ sizeLine; decide), fun p1 hp1 => ?_⟩
            refine ⟨_, rfl, rfl, cL, rfl, el0.xf, el0.noS, d, _, _, rfl, by rw [upd_ne (ne_of_none ed hp1)]; exact ed, rfl, ?_⟩
            refine ⟨-4, p1, l, [], _, rfl, upd_same, by rw [upd_ne (ne_of_none el hp1)]; exact el, Nat.zero_le _, Nat.zero_le _, fun H3 p _ e2 => good H3 p ?_⟩
            rw [e2]
            rfl
      · rw [eb] at good
        intro d l H4 ed el
        refine ⟨true, T.xNo, fun _ a0 _ => ?_, fun q => Bool.noConfusion q⟩
        refine ⟨_, rfl, rfl, Z.cNo, rfl, T.no.xf, T.no.noN, d, _, _, rfl, ed, rfl, (by show 0 ≤ sizeLine; decide), fun p1 hp1 => ?_⟩
        refine ⟨_, rfl, rfl, Z.cNo, rfl, T.no.xf, T.no.noS, d, _, _, rfl, by rw [upd_ne (ne_of_none ed hp1)]; exact ed, rfl, ?_⟩
        refine ⟨-2, p1, l, _, _, rfl, upd_same, by rw [upd_ne (ne_of_none el hp1)]; exact el, Nat.zero_le _, (by show 2 ≤ 1000; decide), fun H3 p _ e2 => good H3 p ?_⟩
        rw [e2]
        rfl
    · rw [en] at good
      intro d l H4 ed el
      refine ⟨true, T3.xP, fun _ a0 _ => ?_, fun q => Bool.noConfusion q⟩
      refine ⟨_, rfl, rfl, U.cP, rfl, T3.no.xf, T3.no.noN, d, _, _, rfl, ed, rfl, (by show 0 ≤ sizeLine; decide), fun p1 hp1 => ?_⟩
      refine ⟨_, rfl, rfl, U.cP, rfl, T3.no.xf, T3.no.noS, d, _, _, rfl, by rw [upd_ne (ne_of_none ed hp1)]; exact ed, rfl, ?_⟩
      refine ⟨-1, p1, l, [], _, rfl, upd_same, by rw [upd_ne (ne_of_none el hp1)]; exact el, Nat.zero_le _, Nat.zero_le _, fun H3 p _ e2 => good H3 p ?_⟩
      rw [e2]
      rfl
  · have c' : 4096 < b.length := by
      obtain ⟨n, hn, c⟩ := c
      rw [List.mem_singleton.mp hn] at c
      exact c
    intro d l H4 ed el
    refine ⟨true, T.RC.xT, fun _ a0 _ => ?_, fun q => Bool.noConfusion q⟩
    refine ⟨_, rfl, rfl, R.cT, rfl, T.RC.too.xf, T.RC.too.noN, d, _, _, rfl, ed, rfl, (by show 0 ≤ sizeLine; decide), fun p1 hp1 => ?_⟩
    refine ⟨_, rfl, rfl, R.cT, rfl, T.RC.too.xf, T.RC.too.noS, d, _, _, rfl, by rw [upd_ne (ne_of_none ed hp1)]; exact ed, rfl, ?_⟩
    refine ⟨-1, p1, l, [], _, rfl, upd_same, by rw [upd_ne (ne_of_none el hp1)]; exact el, Nat.zero_le _, Nat.zero_le _, fun H3 p _ e2 => good H3 p ?_⟩
    rw [e2]
    unfold onesOut
    rw [if_pos c']
    rfl
end
end SDP
set_option Elab.async false
set_option linter.all false
set_option maxRecDepth 100000
set_option maxHeartbeats 4000000
/-! # What is due: ones -/
namespace SDP
open PySem PySem.Spec PyProof.Rows L2 SDX SD TL SR
open SeamNum (Bytes)
theorem all_fits : ∀ l : List SeamPattern.Place, (l.flatMap fun (z : SeamPattern.Place) => [z.2.1, z.2.2]).all SeamNum.fits = l.all fun z => SeamNum.fitsP z.2
  | [] => rfl
  | z :: r => by
    rw [List.flatMap_cons, List.all_append, List.all_cons, all_fits r]
    simp only [List.all_cons, List.all_nil, Bool.and_true]
    rfl
theorem ones_due (k : Nat) (xa xb ya yb : Int) (b : Bytes) : PyWrdrft.ones (k : Int) xa xb ya yb (b.map fun c => (c.toNat : Int)) = onesOut k xa xb ya yb b := by
  have e : PyWrdrft.ones (k : Int) xa xb ya yb (b.map fun c => (c.toNat : Int)) = DraftsNeutral.numbersOf (Drafts.looked [DraftsNeutral.text (b.map fun c => (c.toNat : Int))] fun _ => match Drafts.pointOf xa xb ya yb with
    | none => SeamNum.says (-1)
    | some q => Drafts.ofPattern (DraftsNeutral.text (b.map fun c => (c.toNat : Int))) fun P => if P.has (((k : Int)).toNat, q) = false then SeamNum.says (-4) else
      Drafts.fine ((P.ones (((k : Int)).toNat, q)).flatMap fun (z : SeamPattern.Place) => [z.2.1, z.2.2]) (SeamNum.gives ((P.ones (((k : Int)).toNat, q)).flatMap Drafts.placeLine))) := rfl
  rw [e, text_is, Int.toNat_natCast]
  unfold onesOut
  by_cases h : 4096 < b.length
  · rw [if_pos h, looked_long (List.mem_singleton.mpr rfl) h]
    rfl
  · rw [if_neg h, looked_short (fun x hx => by rw [List.mem_singleton.mp hx]; omega)]
    cases Drafts.pointOf xa xb ya yb with
    | none => rfl
    | some q =>
      simp only
      unfold Drafts.ofPattern
      cases SeamPattern.readPattern b with
      | error e => rfl
      | ok P =>
        simp only
        cases hh : P.has (k, q) with
        | false => rfl
        | true =>
          rw [if_neg (by decide), if_neg (by decide)]
          unfold Drafts.fine onesTold
          rw [all_fits]
          by_cases hf : ((P.ones (k, q)).all fun z => SeamNum.fitsP z.2) = true
          · rw [if_pos hf, if_pos hf]
            rfl
          · rw [if_neg hf, if_neg hf]
            rfl
theorem ones_go {K : PySem.W.Frag} {H : Hp} {p tP : Addr} (hT : LamX.Tabs (tabT tP) H) (k xa xb ya yb : Int) (ns : List Int) (hs : SqL K H p (ns.map V.int)) (hk : PySem.W.Codec.inInt 0 18446744073709551615 k = true)
    (h1 : PySem.W.Codec.inInt (-9223372036854775808) 9223372036854775807 xa = true) (h2 : PySem.W.Codec.inInt (-9223372036854775808) 9223372036854775807 xb = true) (h3 : PySem.W.Codec.inInt (-9223372036854775808) 9223372036854775807 ya = true) (h4 : PySem.W.Codec.inInt (-9223372036854775808) 9223372036854775807 yb = true)
    (hw : PySem.W.Codec.inList 0 4200 (PySem.W.Codec.inInt 0 255) ns = true) :
    spOnes K tP [.int k, .int xa, .int xb, .int ya, .int yb, .ref p] H (fun v H' => Dw K H' v (PySem.Challenge.rw_seamdrafts_s08_ones.ret.enc (PyWrdrft.ones k xa xb ya yb ns))) fun _ _ _ => False := by
  unfold PySem.W.Codec.inInt at hk h1 h2 h3 h4
  simp only [Bool.and_eq_true, decide_eq_true_eq] at hk h1 h2 h3 h4
  obtain ⟨b, hb, hB, hl⟩ := bytes_in hs hw
  have ek : k = ((k.toNat : Nat) : Int) := by omega
  have big : ∀ z : Int, -9223372036854775808 ≤ z → z ≤ 9223372036854775807 → z.natAbs < 2 ^ 100 := fun z a c => by
    have : (2 : Nat) ^ 100 = 1267650600228229401496703205376 := by decide
    omega
  refine ⟨k.toNat, xa, xb, ya, yb, p, b, by rw [← ek], hT, big _ h1.1 h1.2, big _ h2.1 h2.2, big _ h3.1 h3.2, big _ h4.1 h4.2, hB, hl, fun H' q hq => ?_⟩
  have e : PyWrdrft.ones k xa xb ya yb ns = onesOut k.toNat xa xb ya yb b := by rw [hb, ek]; exact ones_due _ _ _ _ _ b
  rw [e]
  exact .lst (L2.SqL.of hq) (L2.dw_ints _)
open PySem.W in
theorem ones_end {K : PySem.W.Frag} {H : Hp} {p tP : Addr} (hT : LamX.Tabs (tabT tP) H) {a : Codec.denoteAll PySem.Challenge.rw_seamdrafts_s08_ones.args} (hs : SqL K H p (a.2.2.2.2.2.1.map V.int)) (hw : Codec.withinAll PySem.Challenge.rw_seamdrafts_s08_ones.args a = true) :
    spOnes K tP [.int a.1, .int a.2.1, .int a.2.2.1, .int a.2.2.2.1, .int a.2.2.2.2.1, .ref p] H (fun v H' => Dw K H' v (PySem.Challenge.rw_seamdrafts_s08_ones.ret.enc (Codec.app PySem.Challenge.rw_seamdrafts_s08_ones.args PySem.Challenge.rw_seamdrafts_s08_ones.f a))) fun _ _ _ => False := by
  obtain ⟨k, xa, xb, ya, yb, ns, u⟩ := a
  have hw : (PySem.W.Codec.inInt 0 18446744073709551615 k && (PySem.W.Codec.inInt (-9223372036854775808) 9223372036854775807 xa && (PySem.W.Codec.inInt (-9223372036854775808) 9223372036854775807 xb && (PySem.W.Codec.inInt (-9223372036854775808) 9223372036854775807 ya && (PySem.W.Codec.inInt (-9223372036854775808) 9223372036854775807 yb && (PySem.W.Codec.inList 0 4200 (PySem.W.Codec.inInt 0 255) ns && true)))))) = true := hw
  simp only [Bool.and_true, Bool.and_eq_true] at hw
  exact ones_go hT k xa xb ya yb ns hs hw.1 hw.2.1 hw.2.2.1 hw.2.2.2.1 hw.2.2.2.2.1 hw.2.2.2.2.2
end SDP
set_option Elab.async false
set_option linter.all false
set_option maxRecDepth 100000
/-! # The end of a Spec row where a def makes a lambda: the table of its code object -/
namespace SDX
open PySem PySem.Spec PySem.W PyProof.Rows L2
theorem dw_same {K : PySem.W.Frag} {H H' : Hp} (sm : ∀ b o, H b = some o → H' b = some o) : ∀ {v : V} {d : WData}, Dw K H v d → Dw K H' v d := by
  intro v d h
  refine Dw.rec (motive_1 := fun v d _ => Dw K H' v d) (motive_2 := fun vs ds _ => DwAll K H' vs ds) .non .bl .int .str .byt (fun hs _ ih => .lst ?_ ih) (fun hs _ ih => .tup ?_ ih) .nil (fun _ _ a b => .cons a b) h
  · rcases hs with z | z
    · exact .inl (z.imp (fun q => sm _ _ q) fun ⟨o, q⟩ => ⟨o, sm _ _ q⟩)
    · exact .inr z
  · rcases hs with z | z
    · exact .inl (z.imp (fun q => sm _ _ q) fun ⟨o, q⟩ => ⟨o, sm _ _ q⟩)
    · exact .inr z
theorem dws_same {K : PySem.W.Frag} {H H' : Hp} (sm : ∀ b o, H b = some o → H' b = some o) : ∀ {vs : List V} {ds : List WData}, DwAll K H vs ds → DwAll K H' vs ds
  | [], [], _ => .nil
  | _ :: _, _ :: _, h => by
    cases h with
    | cons a b => exact .cons (dw_same sm a) (dws_same sm b)
  | [], _ :: _, h => by cases h
  | _ :: _, [], h => by cases h
section
variable {pg : Program} {wd : World} {Kf : PySem.W.Frag} {m1 m2 : Str → Option Value} {lv : Nat} {at1 c tP : Addr} {fn : FuncData} {names : List Str} {pr : Sp} {st : Shared}
theorem call_tab {args : List Value} {ds : List WData} {Rr : PySem.W.WRecords} {clz : Str → Option Addr} {due : WData} (KX : Kf.In st.heap) (n1 : st.heap.Ns mainGlobals m1) (n2 : st.heap.Ns builtinsNs m2) (bb : ∀ x : Str, x ≠ "__name__" → m2 x = bootBuiltins x)
    (lim : st.heap.NoLimit) (gn : st.gens = #[]) (well : WellAll wd.params st.heap args ds) (plain : plWs ds = true) (light : ∀ d ∈ ds, d.weight ≤ 1048576) (room : Room lv callerA)
    (hT : st.heap.get? tP = some { cls := .none, data := .fields #[] }) (nT : Kf.lookup tP = none) (C : PySem.W.CodeHd st.heap c tP)
    (hbm : ∃ (bm : Addr) (ob : Obj), m1 "__builtins__" = some (.ref bm) ∧ bm ≠ builtinsNs ∧ st.heap.get? bm = some ob ∧ ob.cls = .type "module" ∧ ob.dict = some builtinsNs ∧ ob.data = .plain)
    (F : ∀ b0 : Heap, Kf.In b0 → b0.Ns mainGlobals m1 → LamX.TabB b0 m1 c tP → FnOk pg wd Kf m1 b0 CX0 lv at1 fn names pr) (bind : ∀ (s : Shared) (us : List Value), us.length = names.length → BindsTo s fn ⟨us, []⟩ (names.zip us)) (len : ds.length = names.length)
    (holds : ∀ (H : Hp) (xs : List V), H tP = some (.tbl #[]) → DwAll Kf H xs ds → pr xs H (fun v H' => Dw Kf H' v due) fun _ _ _ => False) :
    codeAny (model pg wd) callerA (.call (.ref at1) ⟨args, []⟩) (fun r s' => ∃ u as, r = .ok (.ret u) ∧ ReadsW Rr clz s'.heap u due as ∧ OldK st.heap s'.heap ∧ s'.os = st.os ∧ AllBare s'.gens) st := by
  obtain ⟨A, ho, ar⟩ := area_all ds args well plain light
  have only0 : OnlyF (argH Kf st.heap A) := argH_only ar
  have okH0 : HOk pg wd (argH Kf st.heap A) st.heap := argH_ok ar
  have given0 := dw_all KX ar ds args well plain ho
  have vals := vals_toV ho
  have unK0 : ∀ b u, argH Kf st.heap A b = some u → Kf.lookup b = none := fun b u q => (argH_is ar q).1
  have isSeq : ∀ {b : Addr} {ob : Obj} {u : HO}, st.heap.get? b = some ob → argH Kf st.heap A b = some u → ∃ vs n, ob.data = .seq vs n ∧ ob.cls ≠ .type "module" := by
    intro b ob u e q
    obtain ⟨_, vs, _, _, z⟩ := argH_is ar q
    rcases z with ⟨z, _⟩ | ⟨z, _⟩ <;> (rw [z] at e; cases e; exact ⟨_, _, rfl, by simp⟩)
  have argT : argH Kf st.heap A tP = none := by
    cases q : argH Kf st.heap A tP with
    | none => rfl
    | some u =>
      obtain ⟨vs, n, z, _⟩ := isSeq hT q
      cases z
  generalize argH Kf st.heap A = G at only0 okH0 given0 unK0 isSeq argT
  obtain ⟨H, eH⟩ : ∃ H : Hp, H = upd G tP (.tbl #[]) := ⟨_, rfl⟩
  have hH : H tP = some (.tbl #[]) := by rw [eH]; exact upd_same
  have hG : ∀ b, b ≠ tP → H b = G b := fun b hb => by rw [eH]; exact upd_ne hb
  have sm : ∀ b o, G b = some o → H b = some o := fun b o e => by
    rw [hG b (fun z => by rw [z, argT] at e; cases e)]
    exact e
  have ok0 : HOk pg wd H st.heap := by
    rw [eH]
    exact okH0.laidN (fun b u e => e) argT hT
  have unK : ∀ b u, H b = some u → Kf.lookup b = none := fun b u q => by
    by_cases hb : b = tP
    · rw [hb]
      exact nT
    · exact unK0 b u (by rw [← hG b hb]; exact q)
  have isS : ∀ {b : Addr} {ob : Obj} {u : HO}, st.heap.get? b = some ob → H b = some u → ((∃ vs n, ob.data = .seq vs n) ∨ ob.data = .fields #[]) ∧ ob.cls ≠ .type "module" := by
    intro b ob u e q
    by_cases hb : b = tP
    · rw [hb, hT] at e
      cases e
      exact ⟨.inr rfl, by simp⟩
    · obtain ⟨vs, n, z, y⟩ := isSeq e (by rw [← hG b hb]; exact q)
      exact ⟨.inl ⟨vs, n, z⟩, y⟩
  have none_of : ∀ {b : Addr} {ob : Obj}, st.heap.get? b = some ob → (∀ vs n, ob.data ≠ .seq vs n) → ob.data ≠ .fields #[] → H b = none := by
    intro b ob e h1 h2
    cases q : H b with
    | none => rfl
    | some u =>
      rcases (isS e q).1 with ⟨vs, n, z⟩ | z
      · exact absurd z (h1 vs n)
      · exact absurd z h2
  have noDict : ∀ {b : Addr} {ob : Obj} {es : Array DictEntry} {ep : Nat}, st.heap.get? b = some ob → ob.data = .dict es ep → H b = none := fun e d => none_of e (fun vs n z => by rw [d] at z; cases z) fun z => by rw [d] at z; cases z
  have keep : ∀ {b : Addr} {ob : Obj}, st.heap.get? b = some ob → H b = none → (hidT st.heap H).get? b = some ob := fun e n => hidT_get e n
  have ns : ∀ {b : Addr} {m : Str → Option Value}, st.heap.Ns b m → (hidT st.heap H).Ns b m := by
    rintro b m ⟨ob, es, ep, e, d, r⟩
    exact ⟨ob, es, ep, keep e (noDict e d), d, r⟩
  have fresh : ∀ b ob, Kf.lookup b = some ob → H b = none := by
    intro b ob e
    cases q : H b with
    | none => rfl
    | some u => rw [unK b u q] at e; cases e
  have inB : Kf.In (hidT st.heap H) := fun b ob e => keep (KX b ob e) (fresh b ob e)
  have modB : Mod Kf m1 (hidT st.heap H) := ⟨inB, ns n1, ⟨m2, ns n2, bb⟩, let ⟨mc, h1, h2⟩ := lim; ⟨mc, ns h1, h2⟩⟩
  have TB : LamX.TabB (hidT st.heap H) m1 c tP := by
    refine ⟨?_, ?_, fun z => ?_⟩
    · obtain ⟨o, us, file, tf, flags, tg, inF, text, tt, e1, r1, r2, r3, r4, r5, r6, r7, r8, hne⟩ := C
      refine ⟨o, us, file, tf, flags, tg, inF, text, tt, keep e1 (none_of e1 (fun vs n z => ?_) fun z => ?_), r1, r2, r3, r4, r5, r6, r7, r8, hne⟩
      · rw [r2] at z
        cases z
      · rw [r2] at z
        cases z
        simp at r3
    · obtain ⟨bm, ob, b1, b2, b3, b4, b5, b6⟩ := hbm
      have nG : bm ≠ mainGlobals := fun q => by
        obtain ⟨o, es, ep, e, hd, _⟩ := n1
        rw [q, e] at b3
        cases b3
        rw [hd] at b6
        cases b6
      have nP : bm ≠ tP := fun q => by
        rw [q, hT] at b3
        cases b3
        cases b6
      refine ⟨bm, ob, b1, b2, nG, nP, keep b3 (none_of b3 (fun vs n z => ?_) fun z => ?_), b4, b5, b6⟩
      · rw [b6] at z
        cases z
      · rw [b6] at z
        cases z
    · obtain ⟨o, es, ep, e, hd, _⟩ := n1
      rw [z, hT] at e
      cases e
      cases hd
  have env : Env0 pg wd Kf m1 (hidT st.heap H) callerA [] st H :=
    ⟨rfl, modB, fun b ob e => of_hidT e, Nat.le_of_eq (hidT_size _ _), trivial, fun b hb => (by cases hb), ok0, .of_eq gn⟩
  have lenA : args.length = names.length := (wellAll_len well).trans len
  have run := (F _ inB (ns n1) TB).run callerA [] st H ⟨args, []⟩ args (args.map toV) _ _ room env (bind st args lenA) vals (holds H _ hH (dws_same sm given0))
  refine codeAny_mono run fun r s' x => ?_
  cases r with
  | error e => exact (show False from x).elim
  | ok fl =>
    cases fl with
    | next => exact (show False from x).elim
    | brk => exact (show False from x).elim
    | cont => exact (show False from x).elim
    | ret u =>
      obtain ⟨v, H', os, bare, un, ok2, rel, q⟩ := x
      have stay : ∀ b ob, b ≠ tP → st.heap.get? b = some ob → s'.heap.get? b = some ob := by
        intro b ob hb e
        cases q2 : H b with
        | none => exact un.keep b ob e q2 (by intro z; cases z) (by simp)
        | some u2 =>
          have q3 : G b = some u2 := by rw [← hG b hb]; exact q2
          rcases only0 b with z | ⟨o3, u3, z⟩
          · rw [q3] at z; cases z
          · rw [q3] at z
            cases z
            have z2 := un.frzs b o3 _ q2
            obtain ⟨f1, _⟩ := ok0 b _ q2
            obtain ⟨f2, _⟩ := ok2 b _ z2
            rw [e] at f1
            cases f1
            exact f2
      obtain ⟨more, z⟩ := un.tbls tP #[] hH
      have grown : s'.heap.get? tP = some { cls := .none, data := .fields (#[] ++ more) } := ok2 tP _ z
      have inE : Kf.In s'.heap := fun b ob e => stay b ob (fun y => by rw [y, nT] at e; cases e) (KX b ob e)
      obtain ⟨as, rd⟩ := Dw.reads (R := Rr) (cl := clz) ok2 inE due v u q rel
      refine ⟨u, as, rfl, rd, ⟨fun b o e => ?_, fun b o e => ?_⟩, os, bare⟩
      · by_cases hb : b = tP
        · rw [hb] at e ⊢
          rw [hT] at e
          cases e
          exact .inr (.inl ⟨(C.tab hT).isCodeTable, rfl, #[], more, rfl, grown⟩)
        · exact .inl (stay b o hb e)
      · by_cases hb : b = tP
        · rw [hb]
          exact ⟨_, grown⟩
        · exact ⟨o, stay b o hb e⟩
end
/-- the goal of a Spec row whose program makes a lambda in the def nm -/
theorem walk_tab {r : OpenSpec} {lv : Nat} {q : Program} {loose : List Str} {XP : (Str → Option Value) → Heap → Prop} {YP : World → Heap → Prop} {d : DefRec} {Kp : Params → PySem.W.Frag} {names : List Str} {pr : PySem.W.Frag → Addr → Sp} {nm : Str}
    (well : r.wellSaid = true) (nodef : d.params.defaults = []) (len : r.args.length = names.length) (room : Room lv callerA) (hrec : ((recsOf q).any fun e => e.name == nm) = true) (inK : ∀ (w : World) (h : Heap), YP w h → (Kp w.params).In h)
    (F : ∀ (w : World) (m1 : Str → Option Value) (at1 : Addr) (h : Heap), YP w h → (Kp w.params).In h → h.Ns mainGlobals m1 → m1 d.name = some (.ref at1) → (∀ fa, m1 nm = some (.ref fa) → LamX.OwnTab (Kp w.params) fa h) →
      ∃ (fn : FuncData) (c tP : Addr), (∀ (s : Shared) (us : List Value), us.length = names.length → BindsTo s fn ⟨us, []⟩ (names.zip us)) ∧ h.get? tP = some { cls := .none, data := .fields #[] } ∧ (Kp w.params).lookup tP = none ∧ PySem.W.CodeHd h c tP ∧
        ∀ b0 : Heap, (Kp w.params).In b0 → b0.Ns mainGlobals m1 → LamX.TabB b0 m1 c tP → FnOk r.prog w (Kp w.params) m1 b0 CX0 lv at1 fn names (pr (Kp w.params) tP))
    (holds : ∀ (K : PySem.W.Frag) (tP : Addr) (H : Hp) (xs : List V) (a : Codec.denoteAll r.args), H tP = some (.tbl #[]) → Codec.withinAll r.args a = true → Codec.app r.args r.asked a = true → DwAll K H xs (Codec.encAll r.args a) →
      pr K tP xs H (fun v H' => Dw K H' v (r.ret.enc (Codec.app r.args r.f a))) fun _ _ _ => False) : PySem.W.WalkOS q loose XP YP r d [] (fun f vs => PySem.call f vs) := by
  intro w s₀ s₁ mg mb G Y fa o pm cd doc dV kV ho hd hcd hD hmg hg args vals as pre lay rd wl lo
  obtain ⟨a, e1, e2⟩ := PySem.W.os_pre_some pre
  obtain ⟨rfl, within⟩ := Codec.encAll_of_decAll r.args args a e1
  have KX := inK w _ Y
  have own : ∀ fa, mg nm = some (.ref fa) → LamX.OwnTab (Kp w.params) fa s₁.heap := fun fa hfa c P o1 fd1 e dd vs1 sl k1 k2 k3 k4 k5 => by
    obtain ⟨dL, hm, hn1⟩ := List.any_eq_true.mp hrec
    have hn2 : dL.name = nm := beq_iff_eq.mp hn1
    obtain ⟨a', o', fd', c', P', h1, h2, h3, h4, h5, h6⟩ := G.T.tab dL hm
    rw [hn2, hfa] at h1
    cases h1
    have g1 := KX _ _ k1
    rw [g1] at h2
    cases h2
    rw [k2] at h3
    cases h3
    rw [k3] at h4
    cases h4
    obtain ⟨⟨oc, vc, e1, _, e3, e4⟩, hP⟩ := h6
    have g2 := KX _ _ k4
    rw [g2] at e1
    cases e1
    cases e3
    rw [k5] at e4
    cases e4
    exact hP
  obtain ⟨fn, c, tP, bd, hT, nT, C, ok⟩ := F w mg fa _ Y KX G.T.g hmg own
  have go := call_tab (Rr := []) (clz := classAt s₀.heap) (due := r.ret.enc (Codec.app r.args r.f a)) KX G.T.g G.T.b G.T.builtins G.T.nolimit hg wl (pl_encAll _ _) (layable_weight lay) room hT nT C G.T.bmain ok bd (by rw [encAll_len]; exact len) fun H xs h1 h2 => holds (Kp w.params) tP H xs a h1 within e2 h2
  refine PySem.W.enter_call (codeAny_mono go fun r' s' hq => ?_)
  obtain ⟨u, as', rfl, h1, h2, h3, h4⟩ := hq
  exact ⟨.inl ⟨u, _, as', rfl, fun _ => rfl, h1, (OpenSpec.post_iff well within _ _).mpr rfl, fun z => (by cases z)⟩, h2, h3, h4⟩
end SDX
set_option Elab.async false
set_option linter.all false
set_option maxRecDepth 100000
set_option maxHeartbeats 4000000
/-! # in_order's code object, its table -/
namespace SDP
open PySem PySem.Spec PyProof.Rows L2 SDX SD TL SR
/-- what else is asked of a code object -/
def codeVs (vs : Array Value) : Bool := (match vs.getD 18 .none with | .str _ _ => true | _ => false) && (match vs.getD 7 .none with | .int _ _ => true | _ => false) &&
      (match vs.getD 9 .none with | .bool _ => true | _ => false) && (match vs.getD 10 .none with | .int _ _ => true | _ => false)
section
variable {K : PySem.W.Frag} {h : Heap} {mg : Str → Option Value}
theorem hd_in {c tP : Addr} {dd : Option Addr} {vs : Array Value} {sl : Array (Option Value)} (lc : K.lookup c = some ⟨.type "code", dd, .fields vs, sl⟩) (v11 : vs[11]? = some (.ref tP)) (hv : codeVs vs = true) (ne : (c != tP) = true) : PySem.W.codeHdIn K c tP = true := by
  unfold codeVs at hv
  simp only [Bool.and_eq_true] at hv
  obtain ⟨⟨⟨h1, h2⟩, h3⟩, h4⟩ := hv
  unfold PySem.W.codeHdIn
  rw [lc]
  simp only [v11, Bool.and_eq_true]
  exact ⟨⟨⟨⟨⟨beq_self_eq_true _, h1⟩, h2⟩, h3⟩, h4⟩, ne⟩
theorem tie_lam (X : K.In h) (G : h.Ns mainGlobals mg) {f : Addr} {oc : Value} {od an : Option Addr} {osl : Array (Option Value)} {kV doc pm ct : Value} {c : Addr} (a : PySem.W.nsIn K mainGlobals "in_order" = some (some (.ref f))) (l : K.lookup f = some ⟨oc, od, .func (PySem.W.fnOf "in_order" "in_order" (defArgs S_in_order) (defBody S_in_order) (defScope S_in_order) .none kV doc pm an (.ref c) ct), osl⟩) (cc : PySem.W.codeIn K (.ref c) "in_order" = true) (k : PySem.W.keepIn K (.ref f) = true)
    {tP : Addr} {dd : Option Addr} {vs : Array Value} {sl : Array (Option Value)} (lc : K.lookup c = some ⟨.type "code", dd, .fields vs, sl⟩) (v11 : vs[11]? = some (.ref tP)) (hv : codeVs vs = true) (ne : (c != tP) = true) (nT : K.lookup tP = none) (own : ∀ fa, mg "in_order" = some (.ref fa) → LamX.OwnTab K fa h) :
    ∃ (f : Addr) (d : FuncData) (c tP : Addr), Fn1 K mg "in_order" S_in_order ["places"] f d ∧ d.code = .ref c ∧ h.get? tP = some { cls := .none, data := .fields #[] } ∧ K.lookup tP = none ∧ PySem.W.CodeHd h c tP := by
  have F1 := mk_in_order X G a l cc k
  exact ⟨_, _, c, tP, F1, rfl, own f F1.m c tP _ _ _ _ vs _ l rfl rfl lc v11, nT, PySem.W.codeHd_of_K X (hd_in lc v11 hv ne)⟩
end
/-- the facts together, as the head tells them -/
theorem tabs_nil {tP : Addr} {H : Hp} (h : H tP = some (.tbl #[])) : LamX.Tabs (tabT tP) H := fun p hp => by
  rw [List.mem_singleton.mp hp]
  exact LamX.TabS.nil h
end SDP
set_option linter.all false
set_option maxRecDepth 100000
set_option maxHeartbeats 4000000
/-! # The facts of the row, together -/
namespace SDP
open PySem PySem.Spec PyProof.Rows L2 SDX SD TL SR
theorem head_ones {P : Program} {w : World} {K : PySem.W.Frag} {mg : Str → Option Value} {base : Heap} {R : RefAd} {D : PAd}
    {f_add_corner f_add_line f_add_piece f_add_seam f_after f_alike f_all_whole f_answer f_apart f_are_corners f_are_of_one_length f_bytes_of f_check_lengths f_check_place f_common_below f_edge_length f_edges_at f_edges_keep_apart f_edges_through f_ends f_goes_round f_has_edge f_have_common_point f_in_order f_index_of_word f_is_piece_name f_last_is_whole f_length f_line_of f_lowest f_main f_minus f_negative f_number_at f_number_handed_in f_number_of f_number_text f_over f_part_of_way f_partner f_partners f_piece_at f_pieces_may_be f_places_one_with f_places_text f_plus f_point_handed_in f_point_of_words f_point_words f_read_pattern f_seams_may_be f_sewn_to f_side f_text_of f_times f_twice_area f_upright f_where_among f_where_lies f_whole_corners f_whole_of cNoPoint fNoPoint cNoPattern fNoPattern cNoPiece fNoPiece cNoPlace fNoPlace cTooFine fTooFine cL tP : Addr}
    {d_add_corner d_add_line d_add_piece d_add_seam d_after d_alike d_all_whole d_answer d_apart d_are_corners d_are_of_one_length d_bytes_of d_check_lengths d_check_place d_common_below d_edge_length d_edges_at d_edges_keep_apart d_edges_through d_ends d_goes_round d_has_edge d_have_common_point d_in_order d_index_of_word d_is_piece_name d_last_is_whole d_length d_line_of d_lowest d_main d_minus d_negative d_number_at d_number_handed_in d_number_of d_number_text d_over d_part_of_way d_partner d_partners d_piece_at d_pieces_may_be d_places_one_with d_places_text d_plus d_point_handed_in d_point_of_words d_point_words d_read_pattern d_seams_may_be d_sewn_to d_side d_text_of d_times d_twice_area d_upright d_where_among d_where_lies d_whole_corners d_whole_of dNoPoint dNoPattern dNoPiece dNoPlace dTooFine : FuncData}
    (hR : RefC K mg R)
    (hD : PatC K mg D)
    (TB : LamX.TabB base mg cL tP)
    (hcL : d_in_order.code = .ref cL)
    (h_side : Fn1 K mg "side" S_side ["a", "b", "c"] f_side d_side)
    (h_apart : Fn1 K mg "apart" S_apart ["a", "b", "c", "d"] f_apart d_apart)
    (h_have_common_point : Fn1 K mg "have_common_point" S_have_common_point ["a", "b", "c", "d"] f_have_common_point d_have_common_point)
    (z_max : mg "max" = none)
    (z_min : mg "min" = none)
    (h_edges_keep_apart : Fn1 K mg "edges_keep_apart" S_edges_keep_apart ["corners"] f_edges_keep_apart d_edges_keep_apart)
    (z_len : mg "len" = none)
    (z_range : mg "range" = none)
    (h_common_below : Fn1 K mg "common_below" S_common_below ["corners"] f_common_below d_common_below)
    (h_whole_corners : Fn1 K mg "whole_corners" S_whole_corners ["corners", "below"] f_whole_corners d_whole_corners)
    (h_twice_area : Fn1 K mg "twice_area" S_twice_area ["corners"] f_twice_area d_twice_area)
    (h_after : Fn1 K mg "after" S_after ["row", "index"] f_after d_after)
    (h_are_corners : Fn1 K mg "are_corners" S_are_corners ["corners"] f_are_corners d_are_corners)
    (z_enumerate : mg "enumerate" = none)
    (h_all_whole : Fn1 K mg "all_whole" S_all_whole ["corners"] f_all_whole d_all_whole)
    (h_plus : Fn1 K mg "plus" S_plus ["a", "b"] f_plus d_plus)
    (h_minus : Fn1 K mg "minus" S_minus ["a", "b"] f_minus d_minus)
    (h_times : Fn1 K mg "times" S_times ["a", "b"] f_times d_times)
    (h_edge_length : Fn1 K mg "edge_length" S_edge_length ["corners", "edge"] f_edge_length d_edge_length)
    (h_alike : Fn1 K mg "alike" S_alike ["a", "b"] f_alike d_alike)
    (h_has_edge : Mt1 K D.CT "has_edge" "Pattern.has_edge" S_Pattern_has_edge ["self", "edge"] f_has_edge d_has_edge)
    (h_length : Mt1 K D.CT "length" "Pattern.length" S_Pattern_length ["self", "edge"] f_length d_length)
    (h_are_of_one_length : Mt1 K D.CT "are_of_one_length" "Pattern.are_of_one_length" S_Pattern_are_of_one_length ["self", "first", "second"] f_are_of_one_length d_are_of_one_length)
    (h_pieces_may_be : Fn1 K mg "pieces_may_be" S_pieces_may_be ["pattern"] f_pieces_may_be d_pieces_may_be)
    (c_nodir : NoDir K mg)
    (z_set : mg "set" = none)
    (z_all : mg "all" = none)
    (h_last_is_whole : Fn1 K mg "last_is_whole" S_last_is_whole ["pattern"] f_last_is_whole d_last_is_whole)
    (c_FEWEST_CORNERS : Gi mg "FEWEST_CORNERS" 3)
    (h_lowest : Fn1 K mg "lowest" S_lowest ["number"] f_lowest d_lowest)
    (h_negative : Fn1 K mg "negative" S_negative ["a"] f_negative d_negative)
    (z_abs : mg "abs" = none)
    (c_FINEST : Gi mg "FINEST" 4611686018427387904)
    (h_number_text : Fn1 K mg "number_text" S_number_text ["number"] f_number_text d_number_text)
    (h_whole_of : Fn1 K mg "whole_of" S_whole_of ["digits"] f_whole_of d_whole_of)
    (h_number_of : Fn1 K mg "number_of" S_number_of ["text"] f_number_of d_number_of)
    (z_str : mg "str" = none)
    (z_int : mg "int" = none)
    (c_LONGEST_WHOLE : Gi mg "LONGEST_WHOLE" 19)
    (h_point_of_words : Fn1 K mg "point_of_words" S_point_of_words ["words"] f_point_of_words d_point_of_words)
    (h_index_of_word : Fn1 K mg "index_of_word" S_index_of_word ["word"] f_index_of_word d_index_of_word)
    (h_is_piece_name : Fn1 K mg "is_piece_name" S_is_piece_name ["word"] f_is_piece_name d_is_piece_name)
    (h_add_piece : Fn1 K mg "add_piece" S_add_piece ["pattern", "words"] f_add_piece d_add_piece)
    (h_add_corner : Fn1 K mg "add_corner" S_add_corner ["pattern", "words"] f_add_corner d_add_corner)
    (h_add_seam : Fn1 K mg "add_seam" S_add_seam ["pattern", "words"] f_add_seam d_add_seam)
    (h_add_line : Fn1 K mg "add_line" S_add_line ["pattern", "words"] f_add_line d_add_line)
    (c_LONGEST_NAME : Gi mg "LONGEST_NAME" 16)
    (c_MOST_PIECES : Gi mg "MOST_PIECES" 8)
    (c_MOST_CORNERS : Gi mg "MOST_CORNERS" 16)
    (h_seams_may_be : Fn1 K mg "seams_may_be" S_seams_may_be ["pattern"] f_seams_may_be d_seams_may_be)
    (z_ord : mg "ord" = none)
    (z_dict : mg "dict" = none)
    (c_KNOWN : Gs mg "KNOWN" KNOWNB)
    (c_STRANGER : Gs mg "STRANGER" [63])
    (h_text_of : Fn1 K mg "text_of" sTextOf ["t"] f_text_of d_text_of)
    (h_read_pattern : Fn1 K mg "read_pattern" S_read_pattern ["p"] f_read_pattern d_read_pattern)
    (eNoPattern : ErrC K mg "NoPattern" cNoPattern fNoPattern ∧ L2.Fun K "__init__" "NoPattern.__init__" S_NoPattern_I fNoPattern dNoPattern ∧ L2.Binds K dNoPattern ["self", "line"] [])
    (xNoPattern : PySem.W.exmOne K (.ref cNoPattern) (.ref R.cRef) = some true)
    (eNoPiece : ErrC K mg "NoPiece" cNoPiece fNoPiece ∧ L2.Fun K "__init__" "NoPiece.__init__" S_NoPiece_I fNoPiece dNoPiece ∧ L2.Binds K dNoPiece ["self"] [])
    (xNoPiece : PySem.W.exmOne K (.ref cNoPiece) (.ref R.cRef) = some true)
    (h_piece_at : Fn1 K mg "piece_at" S_piece_at ["pattern", "k"] f_piece_at d_piece_at)
    (h_edges_through : Fn1 K mg "edges_through" S_edges_through ["whole", "spot"] f_edges_through d_edges_through)
    (h_goes_round : Fn1 K mg "goes_round" S_goes_round ["whole", "spot"] f_goes_round d_goes_round)
    (c_ON_RIM : Gi mg "ON_RIM" 1)
    (c_INSIDE : Gi mg "INSIDE" 2)
    (c_OUTSIDE : Gi mg "OUTSIDE" 0)
    (eNoPoint : ErrC K mg "NoPoint" cNoPoint fNoPoint ∧ L2.Fun K "__init__" "NoPoint.__init__" S_NoPoint_I fNoPoint dNoPoint ∧ L2.Binds K dNoPoint ["self"] [])
    (xNoPoint : PySem.W.exmOne K (.ref cNoPoint) (.ref R.cRef) = some true)
    (h_number_handed_in : Fn1 K mg "number_handed_in" S_number_handed_in ["above", "below"] f_number_handed_in d_number_handed_in)
    (h_point_handed_in : Fn1 K mg "point_handed_in" S_point_handed_in ["x_above", "x_below", "y_above", "y_below"] f_point_handed_in d_point_handed_in)
    (eNoPlace : ErrC K mg "NoPlace" cNoPlace fNoPlace ∧ L2.Fun K "__init__" "NoPlace.__init__" S_NoPlace_I fNoPlace dNoPlace ∧ L2.Binds K dNoPlace ["self"] [])
    (h_ends : Fn1 K mg "ends" S_ends ["pattern", "edge"] f_ends d_ends)
    (h_over : Fn1 K mg "over" S_over ["a", "b"] f_over d_over)
    (h_upright : Fn1 K mg "upright" S_upright ["above", "below"] f_upright d_upright)
    (eTooFine : ErrC K mg "TooFine" cTooFine fTooFine ∧ L2.Fun K "__init__" "TooFine.__init__" S_TooFine_I fTooFine dTooFine ∧ L2.Binds K dTooFine ["self"] [])
    (h_number_at : Fn1 K mg "number_at" S_number_at ["part", "a", "b"] f_number_at d_number_at)
    (h_part_of_way : Fn1 K mg "part_of_way" S_part_of_way ["a", "b", "point"] f_part_of_way d_part_of_way)
    (h_partner : Fn1 K mg "partner" S_partner ["pattern", "edge", "other", "point"] f_partner d_partner)
    (h_sewn_to : Mt1 K D.CT "sewn_to" "Pattern.sewn_to" S_Pattern_sewn_to ["self", "edge"] f_sewn_to d_sewn_to)
    (h_edges_at : Fn1 K mg "edges_at" S_edges_at ["corners", "point"] f_edges_at d_edges_at)
    (h_partners : Fn1 K mg "partners" S_partners ["pattern", "place"] f_partners d_partners)
    (h_line_of : Fn1 K mg "line_of" S_line_of ["words"] f_line_of d_line_of)
    (h_point_words : Fn1 K mg "point_words" S_point_words ["point"] f_point_words d_point_words)
    (xNoPlace : PySem.W.exmOne K (.ref cNoPlace) (.ref R.cRef) = some true)
    (xTooFine : PySem.W.exmOne K (.ref cTooFine) (.ref R.cRef) = some true)
    (h_in_order : Fn1 K mg "in_order" S_in_order ["places"] f_in_order d_in_order)
    (z_sorted : mg "sorted" = none)
    (h_answer : Fn1 K mg "answer" sAnsw ["number", "told", "signed"] f_answer d_answer)
    (h_check_lengths : Fn1 K mg "check_lengths" sCheck ["texts"] f_check_lengths d_check_lengths)
    (c_LONGEST_TEXT : Gi mg "LONGEST_TEXT" 4096)
    (h_where_among : Fn1 K mg "where_among" S_where_among ["whole", "spot"] f_where_among d_where_among)
    (h_where_lies : Fn1 K mg "where_lies" S_where_lies ["corners", "point"] f_where_lies d_where_lies)
    (h_bytes_of : Fn1 K mg "bytes_of" S_bytes_of ["text"] f_bytes_of d_bytes_of)
    (h_check_place : Fn1 K mg "check_place" S_check_place ["pattern", "k", "point"] f_check_place d_check_place)
    (h_places_one_with : Fn1 K mg "places_one_with" S_places_one_with ["pattern", "place"] f_places_one_with d_places_one_with)
    (h_places_text : Fn1 K mg "places_text" S_places_text ["places"] f_places_text d_places_text)
    (h_main : Fn1 K mg "ones" S_ones ["k", "x_above", "x_below", "y_above", "y_below", "p"] f_main d_main) :
    FnOk P w K mg base CX0 39 f_main d_main ["k", "x_above", "x_below", "y_above", "y_below", "p"] (spOnes K tP) := by
  obtain tK : SDP.KeepT _ mg _ _ _ _ _ _ _ _ := ⟨⟨h_side, h_apart, h_have_common_point, z_max, z_min⟩, h_edges_keep_apart, z_len, z_range⟩
  obtain tR : SDP.RowT _ mg _ _ _ _ _ _ _ _ _ _ _ _ _ _ _ _ _ _ := ⟨tK, h_common_below, h_whole_corners, h_twice_area, h_after, h_are_corners, z_enumerate, _, _, h_all_whole⟩
  obtain tE : SDP.EdgeT _ mg D _ _ _ _ _ _ _ _ _ _ _ _ _ _ _ _ _ _ := ⟨hD, ⟨h_plus, h_minus, h_times, h_after, h_edge_length, z_len⟩, h_alike, h_has_edge, h_length, h_are_of_one_length⟩
  obtain tM : SDP.MayT _ mg D _ _ _ _ _ _ _ _ _ _ _ _ _ _ _ _ _ _ _ _ := ⟨hD, tR, h_pieces_may_be, c_nodir, z_set, z_all⟩
  obtain tA : SDP.AddT _ mg _ base D ⟨f_lowest, d_lowest, f_negative, d_negative, f_number_text, d_number_text, f_whole_of, d_whole_of, f_number_of, d_number_of, f_point_of_words, d_point_of_words, f_last_is_whole, d_last_is_whole, f_index_of_word, d_index_of_word, f_is_piece_name, d_is_piece_name, f_add_piece, d_add_piece, f_add_corner, d_add_corner, f_add_seam, d_add_seam, f_add_line, d_add_line⟩ :=
    ⟨⟨hD, h_last_is_whole, z_len, c_FEWEST_CORNERS⟩, ⟨⟨h_lowest, h_negative, z_abs, z_max, c_FINEST⟩, h_number_text, h_whole_of, h_number_of, z_str, z_len, z_int, c_LONGEST_WHOLE⟩, h_point_of_words, h_index_of_word, h_is_piece_name, h_add_piece, h_add_corner, h_add_seam, h_add_line, c_LONGEST_NAME, c_MOST_PIECES, c_MOST_CORNERS⟩
  obtain tRd : SDP.ReadT _ mg _ base D _ R ⟨cNoPattern, fNoPattern, dNoPattern, f_text_of, d_text_of, f_read_pattern, d_read_pattern, f_seams_may_be, d_seams_may_be, f_side, f_apart, f_have_common_point, f_edges_keep_apart, f_common_below, f_whole_corners, f_twice_area, f_after, f_are_corners, f_pieces_may_be, d_side, d_apart, d_have_common_point, d_edges_keep_apart, d_common_below, d_whole_corners, d_twice_area, d_after, d_are_corners, d_pieces_may_be, f_plus, f_minus, f_times, f_edge_length, f_alike, f_has_edge, f_length, f_are_of_one_length, d_plus, d_minus, d_times, d_edge_length, d_alike, d_has_edge, d_length, d_are_of_one_length⟩ :=
    ⟨hR, tA, tE, tM, h_seams_may_be, ⟨z_ord, z_dict, c_KNOWN, c_STRANGER⟩, h_text_of, h_read_pattern, eNoPattern.1, eNoPattern.2.1, eNoPattern.2.2, xNoPattern, z_enumerate⟩
  obtain tPa : SDP.PaT _ mg R ⟨cNoPiece, fNoPiece, dNoPiece, f_piece_at, d_piece_at⟩ := ⟨eNoPiece.1, eNoPiece.2.1, eNoPiece.2.2, xNoPiece, h_piece_at⟩
  obtain tWh : SDP.WhT _ mg := ⟨⟨_, _, _, _, _, _, ⟨h_side, h_apart, h_have_common_point, z_max, z_min⟩⟩, ⟨_, _, h_after⟩, ⟨_, _, h_edges_through⟩, ⟨_, _, h_goes_round⟩, c_ON_RIM, c_INSIDE, c_OUTSIDE, z_len, z_enumerate⟩
  obtain tAw : SDP.AwT _ mg := ⟨⟨_, _, h_common_below⟩, ⟨_, _, h_whole_corners⟩, ⟨_, _, h_all_whole⟩⟩
  obtain tPn : SDP.PnT _ mg R _ base ⟨cNoPoint, fNoPoint, dNoPoint, f_number_handed_in, d_number_handed_in, f_point_handed_in, d_point_handed_in⟩ := ⟨eNoPoint.1, eNoPoint.2.1, eNoPoint.2.2, xNoPoint, h_number_handed_in, h_point_handed_in, ⟨_, _, _, _, tRd.AD.N.low⟩⟩
  obtain tL : SDP.PlaceT _ mg cNoPlace := ⟨⟨_, _, eNoPlace.1, eNoPlace.2.1, eNoPlace.2.2⟩⟩
  obtain tEn : SDP.EndsT _ mg D := ⟨hD, ⟨_, _, h_ends⟩, ⟨_, _, h_after⟩, z_len⟩
  obtain tPt : SDP.PartT _ mg := ⟨⟨_, _, h_minus⟩, ⟨_, _, h_over⟩, ⟨_, _, h_upright⟩⟩
  obtain tNt : SDP.NatT _ mg _ base R cTooFine := ⟨⟨hR, ⟨_, _, eTooFine.1, eTooFine.2.1, eTooFine.2.2⟩⟩, ⟨_, _, _, _, tRd.AD.N.low⟩, ⟨_, _, h_plus⟩, ⟨_, _, h_minus⟩, ⟨_, _, h_times⟩⟩
  obtain tPr : SDP.ParT _ mg _ base D R cTooFine := ⟨tNt, tEn, tPt, ⟨_, _, h_number_at⟩, ⟨_, _, h_part_of_way⟩⟩
  obtain tPs : SDP.PrsT _ mg _ base D R cTooFine := ⟨tPr, ⟨_, _, h_partner⟩, ⟨_, _, ⟨hD, h_sewn_to⟩⟩, ⟨_, _, h_edges_at⟩, tWh, tAw⟩
  obtain tO : SDP.OneT _ mg _ base D R cTooFine := ⟨tPs, ⟨_, _, h_partners⟩, z_len⟩
  obtain tPl : SDP.PlsT _ mg := ⟨⟨_, _, h_line_of⟩, ⟨_, _, h_point_words⟩, ⟨_, _, h_number_text⟩, z_str⟩
  exact SDP.ok_ones tRd tPa tPn tWh tAw tL ⟨⟨_, eNoPlace.1⟩, xNoPlace⟩ ⟨⟨_, eTooFine.1⟩, xTooFine⟩ tO h_in_order (SDP.ok_inOrder h_common_below h_whole_corners z_sorted TB h_in_order hcL) tPl c_OUTSIDE h_answer h_check_lengths c_LONGEST_TEXT h_where_among h_where_lies h_bytes_of z_ord h_check_place h_places_one_with h_places_text h_main
end SDP
set_option linter.all false
open PySem PySem.W PyProof.Rows
set_option maxRecDepth 100000 in
set_option maxHeartbeats 0 in
theorem PySem.Challenge.cw_seamdrafts_s08_ones_holds : PySem.Challenge.rw_seamdrafts_s08_ones.Holds := by
  w_on; k_headS; (case hw => exact ⟨[.int 0, .int 0, .int 0, .int 0, .int 0, .list []], by decide +kernel, by decide +kernel⟩)
  k_fillS
  refine SDX.walk_tab (r := PySem.Challenge.rw_seamdrafts_s08_ones) (lv := 39) (names := ["k", "x_above", "x_below", "y_above", "y_below", "p"]) (pr := SDP.spOnes) (nm := "in_order") (by decide +kernel) rfl rfl ⟨rfl, by decide, by decide⟩ (by decide +kernel) (fun w h Y => PySem.W.kIn_of Y) ?F ?S
  case F =>
    intro w mg fa h Y KX G hmg own
    obtain ⟨f_in_order, d_in_order, cL, tP, h_in_order, hcL, hT, nT, hCL⟩ : ∃ (f : Addr) (d : FuncData) (c tP : Addr), SDP.Fn1 _ mg "in_order" SDP.S_in_order ["places"] f d ∧ d.code = .ref c ∧ h.get? tP = some { cls := .none, data := .fields #[] } ∧ _ ∧ PySem.W.CodeHd h c tP := by
      refine' SDP.tie_lam KX G ?a ?l ?c ?k ?lc ?v11 ?hv ?ne ?nT own
      (case a => k_is); (case l => k_is); (case c => k_is); (case k => k_is); (case lc => k_is); (case v11 => first | rfl | kernel_rfl); (case hv => first | rfl | kernel_rfl | decide +kernel); (case ne => first | rfl | decide); (case nT => first | rfl | kernel_rfl | decide +kernel)
    obtain ⟨f_upright, d_upright, h_upright⟩ : ∃ f d, SDP.Fn1 _ mg "upright" SDP.S_upright ["above", "below"] f d := by
      refine' ⟨_, _, SDP.mk_upright KX G ?a ?l ?c ?k⟩
      (case a => k_is); (case l => k_is); (case c => k_is); (case k => k_is)
    obtain ⟨f_plus, d_plus, h_plus⟩ : ∃ f d, SDP.Fn1 _ mg "plus" SDP.S_plus ["a", "b"] f d := by
      refine' ⟨_, _, SDP.mk_plus KX G ?a ?l ?c ?k⟩
      (case a => k_is); (case l => k_is); (case c => k_is); (case k => k_is)
    obtain ⟨f_minus, d_minus, h_minus⟩ : ∃ f d, SDP.Fn1 _ mg "minus" SDP.S_minus ["a", "b"] f d := by
      refine' ⟨_, _, SDP.mk_minus KX G ?a ?l ?c ?k⟩
      (case a => k_is); (case l => k_is); (case c => k_is); (case k => k_is)
    obtain ⟨f_times, d_times, h_times⟩ : ∃ f d, SDP.Fn1 _ mg "times" SDP.S_times ["a", "b"] f d := by
      refine' ⟨_, _, SDP.mk_times KX G ?a ?l ?c ?k⟩
      (case a => k_is); (case l => k_is); (case c => k_is); (case k => k_is)
    obtain ⟨f_over, d_over, h_over⟩ : ∃ f d, SDP.Fn1 _ mg "over" SDP.S_over ["a", "b"] f d := by
      refine' ⟨_, _, SDP.mk_over KX G ?a ?l ?c ?k⟩
      (case a => k_is); (case l => k_is); (case c => k_is); (case k => k_is)
    obtain ⟨f_negative, d_negative, h_negative⟩ : ∃ f d, SDP.Fn1 _ mg "negative" SDP.S_negative ["a"] f d := by
      refine' ⟨_, _, SDP.mk_negative KX G ?a ?l ?c ?k⟩
      (case a => k_is); (case l => k_is); (case c => k_is); (case k => k_is)
    obtain ⟨f_alike, d_alike, h_alike⟩ : ∃ f d, SDP.Fn1 _ mg "alike" SDP.S_alike ["a", "b"] f d := by
      refine' ⟨_, _, SDP.mk_alike KX G ?a ?l ?c ?k⟩
      (case a => k_is); (case l => k_is); (case c => k_is); (case k => k_is)
    obtain ⟨f_lowest, d_lowest, h_lowest⟩ : ∃ f d, SDP.Fn1 _ mg "lowest" SDP.S_lowest ["number"] f d := by
      refine' ⟨_, _, SDP.mk_lowest KX G ?a ?l ?c ?k⟩
      (case a => k_is); (case l => k_is); (case c => k_is); (case k => k_is)
    obtain ⟨f_number_text, d_number_text, h_number_text⟩ : ∃ f d, SDP.Fn1 _ mg "number_text" SDP.S_number_text ["number"] f d := by
      refine' ⟨_, _, SDP.mk_number_text KX G ?a ?l ?c ?k⟩
      (case a => k_is); (case l => k_is); (case c => k_is); (case k => k_is)
    obtain ⟨f_whole_of, d_whole_of, h_whole_of⟩ : ∃ f d, SDP.Fn1 _ mg "whole_of" SDP.S_whole_of ["digits"] f d := by
      refine' ⟨_, _, SDP.mk_whole_of KX G ?a ?l ?c ?k⟩
      (case a => k_is); (case l => k_is); (case c => k_is); (case k => k_is)
    obtain ⟨f_number_of, d_number_of, h_number_of⟩ : ∃ f d, SDP.Fn1 _ mg "number_of" SDP.S_number_of ["text"] f d := by
      refine' ⟨_, _, SDP.mk_number_of KX G ?a ?l ?c ?k⟩
      (case a => k_is); (case l => k_is); (case c => k_is); (case k => k_is)
    obtain ⟨f_common_below, d_common_below, h_common_below⟩ : ∃ f d, SDP.Fn1 _ mg "common_below" SDP.S_common_below ["corners"] f d := by
      refine' ⟨_, _, SDP.mk_common_below KX G ?a ?l ?c ?k⟩
      (case a => k_is); (case l => k_is); (case c => k_is); (case k => k_is)
    obtain ⟨f_whole_corners, d_whole_corners, h_whole_corners⟩ : ∃ f d, SDP.Fn1 _ mg "whole_corners" SDP.S_whole_corners ["corners", "below"] f d := by
      refine' ⟨_, _, SDP.mk_whole_corners KX G ?a ?l ?c ?k⟩
      (case a => k_is); (case l => k_is); (case c => k_is); (case k => k_is)
    obtain ⟨f_all_whole, d_all_whole, h_all_whole⟩ : ∃ f d, SDP.Fn1 _ mg "all_whole" SDP.S_all_whole ["corners"] f d := by
      refine' ⟨_, _, SDP.mk_all_whole KX G ?a ?l ?c ?k⟩
      (case a => k_is); (case l => k_is); (case c => k_is); (case k => k_is)
    obtain ⟨f_side, d_side, h_side⟩ : ∃ f d, SDP.Fn1 _ mg "side" SDP.S_side ["a", "b", "c"] f d := by
      refine' ⟨_, _, SDP.mk_side KX G ?a ?l ?c ?k⟩
      (case a => k_is); (case l => k_is); (case c => k_is); (case k => k_is)
    obtain ⟨f_apart, d_apart, h_apart⟩ : ∃ f d, SDP.Fn1 _ mg "apart" SDP.S_apart ["a", "b", "c", "d"] f d := by
      refine' ⟨_, _, SDP.mk_apart KX G ?a ?l ?c ?k⟩
      (case a => k_is); (case l => k_is); (case c => k_is); (case k => k_is)
    obtain ⟨f_have_common_point, d_have_common_point, h_have_common_point⟩ : ∃ f d, SDP.Fn1 _ mg "have_common_point" SDP.S_have_common_point ["a", "b", "c", "d"] f d := by
      refine' ⟨_, _, SDP.mk_have_common_point KX G ?a ?l ?c ?k⟩
      (case a => k_is); (case l => k_is); (case c => k_is); (case k => k_is)
    obtain ⟨f_after, d_after, h_after⟩ : ∃ f d, SDP.Fn1 _ mg "after" SDP.S_after ["row", "index"] f d := by
      refine' ⟨_, _, SDP.mk_after KX G ?a ?l ?c ?k⟩
      (case a => k_is); (case l => k_is); (case c => k_is); (case k => k_is)
    obtain ⟨f_edges_keep_apart, d_edges_keep_apart, h_edges_keep_apart⟩ : ∃ f d, SDP.Fn1 _ mg "edges_keep_apart" SDP.S_edges_keep_apart ["corners"] f d := by
      refine' ⟨_, _, SDP.mk_edges_keep_apart KX G ?a ?l ?c ?k⟩
      (case a => k_is); (case l => k_is); (case c => k_is); (case k => k_is)
    obtain ⟨f_twice_area, d_twice_area, h_twice_area⟩ : ∃ f d, SDP.Fn1 _ mg "twice_area" SDP.S_twice_area ["corners"] f d := by
      refine' ⟨_, _, SDP.mk_twice_area KX G ?a ?l ?c ?k⟩
      (case a => k_is); (case l => k_is); (case c => k_is); (case k => k_is)
    obtain ⟨f_are_corners, d_are_corners, h_are_corners⟩ : ∃ f d, SDP.Fn1 _ mg "are_corners" SDP.S_are_corners ["corners"] f d := by
      refine' ⟨_, _, SDP.mk_are_corners KX G ?a ?l ?c ?k⟩
      (case a => k_is); (case l => k_is); (case c => k_is); (case k => k_is)
    obtain ⟨f_edge_length, d_edge_length, h_edge_length⟩ : ∃ f d, SDP.Fn1 _ mg "edge_length" SDP.S_edge_length ["corners", "edge"] f d := by
      refine' ⟨_, _, SDP.mk_edge_length KX G ?a ?l ?c ?k⟩
      (case a => k_is); (case l => k_is); (case c => k_is); (case k => k_is)
    obtain ⟨f_edges_through, d_edges_through, h_edges_through⟩ : ∃ f d, SDP.Fn1 _ mg "edges_through" SDP.S_edges_through ["whole", "spot"] f d := by
      refine' ⟨_, _, SDP.mk_edges_through KX G ?a ?l ?c ?k⟩
      (case a => k_is); (case l => k_is); (case c => k_is); (case k => k_is)
    obtain ⟨f_goes_round, d_goes_round, h_goes_round⟩ : ∃ f d, SDP.Fn1 _ mg "goes_round" SDP.S_goes_round ["whole", "spot"] f d := by
      refine' ⟨_, _, SDP.mk_goes_round KX G ?a ?l ?c ?k⟩
      (case a => k_is); (case l => k_is); (case c => k_is); (case k => k_is)
    obtain ⟨f_where_among, d_where_among, h_where_among⟩ : ∃ f d, SDP.Fn1 _ mg "where_among" SDP.S_where_among ["whole", "spot"] f d := by
      refine' ⟨_, _, SDP.mk_where_among KX G ?a ?l ?c ?k⟩
      (case a => k_is); (case l => k_is); (case c => k_is); (case k => k_is)
    obtain ⟨f_edges_at, d_edges_at, h_edges_at⟩ : ∃ f d, SDP.Fn1 _ mg "edges_at" SDP.S_edges_at ["corners", "point"] f d := by
      refine' ⟨_, _, SDP.mk_edges_at KX G ?a ?l ?c ?k⟩
      (case a => k_is); (case l => k_is); (case c => k_is); (case k => k_is)
    obtain ⟨f_where_lies, d_where_lies, h_where_lies⟩ : ∃ f d, SDP.Fn1 _ mg "where_lies" SDP.S_where_lies ["corners", "point"] f d := by
      refine' ⟨_, _, SDP.mk_where_lies KX G ?a ?l ?c ?k⟩
      (case a => k_is); (case l => k_is); (case c => k_is); (case k => k_is)
    obtain ⟨f_ends, d_ends, h_ends⟩ : ∃ f d, SDP.Fn1 _ mg "ends" SDP.S_ends ["pattern", "edge"] f d := by
      refine' ⟨_, _, SDP.mk_ends KX G ?a ?l ?c ?k⟩
      (case a => k_is); (case l => k_is); (case c => k_is); (case k => k_is)
    obtain ⟨f_part_of_way, d_part_of_way, h_part_of_way⟩ : ∃ f d, SDP.Fn1 _ mg "part_of_way" SDP.S_part_of_way ["a", "b", "point"] f d := by
      refine' ⟨_, _, SDP.mk_part_of_way KX G ?a ?l ?c ?k⟩
      (case a => k_is); (case l => k_is); (case c => k_is); (case k => k_is)
    obtain ⟨f_number_at, d_number_at, h_number_at⟩ : ∃ f d, SDP.Fn1 _ mg "number_at" SDP.S_number_at ["part", "a", "b"] f d := by
      refine' ⟨_, _, SDP.mk_number_at KX G ?a ?l ?c ?k⟩
      (case a => k_is); (case l => k_is); (case c => k_is); (case k => k_is)
    obtain ⟨f_partner, d_partner, h_partner⟩ : ∃ f d, SDP.Fn1 _ mg "partner" SDP.S_partner ["pattern", "edge", "other", "point"] f d := by
      refine' ⟨_, _, SDP.mk_partner KX G ?a ?l ?c ?k⟩
      (case a => k_is); (case l => k_is); (case c => k_is); (case k => k_is)
    obtain ⟨f_partners, d_partners, h_partners⟩ : ∃ f d, SDP.Fn1 _ mg "partners" SDP.S_partners ["pattern", "place"] f d := by
      refine' ⟨_, _, SDP.mk_partners KX G ?a ?l ?c ?k⟩
      (case a => k_is); (case l => k_is); (case c => k_is); (case k => k_is)
    obtain ⟨f_places_one_with, d_places_one_with, h_places_one_with⟩ : ∃ f d, SDP.Fn1 _ mg "places_one_with" SDP.S_places_one_with ["pattern", "place"] f d := by
      refine' ⟨_, _, SDP.mk_places_one_with KX G ?a ?l ?c ?k⟩
      (case a => k_is); (case l => k_is); (case c => k_is); (case k => k_is)
    obtain ⟨f_text_of, d_text_of, h_text_of⟩ : ∃ f d, SDP.Fn1 _ mg "text_of" SDP.sTextOf ["t"] f d := by
      refine' ⟨_, _, SDP.mk_text_of KX G ?a ?l ?c ?k⟩
      (case a => k_is); (case l => k_is); (case c => k_is); (case k => k_is)
    obtain ⟨f_bytes_of, d_bytes_of, h_bytes_of⟩ : ∃ f d, SDP.Fn1 _ mg "bytes_of" SDP.S_bytes_of ["text"] f d := by
      refine' ⟨_, _, SDP.mk_bytes_of KX G ?a ?l ?c ?k⟩
      (case a => k_is); (case l => k_is); (case c => k_is); (case k => k_is)
    obtain ⟨f_pieces_may_be, d_pieces_may_be, h_pieces_may_be⟩ : ∃ f d, SDP.Fn1 _ mg "pieces_may_be" SDP.S_pieces_may_be ["pattern"] f d := by
      refine' ⟨_, _, SDP.mk_pieces_may_be KX G ?a ?l ?c ?k⟩
      (case a => k_is); (case l => k_is); (case c => k_is); (case k => k_is)
    obtain ⟨f_seams_may_be, d_seams_may_be, h_seams_may_be⟩ : ∃ f d, SDP.Fn1 _ mg "seams_may_be" SDP.S_seams_may_be ["pattern"] f d := by
      refine' ⟨_, _, SDP.mk_seams_may_be KX G ?a ?l ?c ?k⟩
      (case a => k_is); (case l => k_is); (case c => k_is); (case k => k_is)
    obtain ⟨f_line_of, d_line_of, h_line_of⟩ : ∃ f d, SDP.Fn1 _ mg "line_of" SDP.S_line_of ["words"] f d := by
      refine' ⟨_, _, SDP.mk_line_of KX G ?a ?l ?c ?k⟩
      (case a => k_is); (case l => k_is); (case c => k_is); (case k => k_is)
    obtain ⟨f_point_words, d_point_words, h_point_words⟩ : ∃ f d, SDP.Fn1 _ mg "point_words" SDP.S_point_words ["point"] f d := by
      refine' ⟨_, _, SDP.mk_point_words KX G ?a ?l ?c ?k⟩
      (case a => k_is); (case l => k_is); (case c => k_is); (case k => k_is)
    obtain ⟨f_places_text, d_places_text, h_places_text⟩ : ∃ f d, SDP.Fn1 _ mg "places_text" SDP.S_places_text ["places"] f d := by
      refine' ⟨_, _, SDP.mk_places_text KX G ?a ?l ?c ?k⟩
      (case a => k_is); (case l => k_is); (case c => k_is); (case k => k_is)
    obtain ⟨f_point_of_words, d_point_of_words, h_point_of_words⟩ : ∃ f d, SDP.Fn1 _ mg "point_of_words" SDP.S_point_of_words ["words"] f d := by
      refine' ⟨_, _, SDP.mk_point_of_words KX G ?a ?l ?c ?k⟩
      (case a => k_is); (case l => k_is); (case c => k_is); (case k => k_is)
    obtain ⟨f_index_of_word, d_index_of_word, h_index_of_word⟩ : ∃ f d, SDP.Fn1 _ mg "index_of_word" SDP.S_index_of_word ["word"] f d := by
      refine' ⟨_, _, SDP.mk_index_of_word KX G ?a ?l ?c ?k⟩
      (case a => k_is); (case l => k_is); (case c => k_is); (case k => k_is)
    obtain ⟨f_is_piece_name, d_is_piece_name, h_is_piece_name⟩ : ∃ f d, SDP.Fn1 _ mg "is_piece_name" SDP.S_is_piece_name ["word"] f d := by
      refine' ⟨_, _, SDP.mk_is_piece_name KX G ?a ?l ?c ?k⟩
      (case a => k_is); (case l => k_is); (case c => k_is); (case k => k_is)
    obtain ⟨f_last_is_whole, d_last_is_whole, h_last_is_whole⟩ : ∃ f d, SDP.Fn1 _ mg "last_is_whole" SDP.S_last_is_whole ["pattern"] f d := by
      refine' ⟨_, _, SDP.mk_last_is_whole KX G ?a ?l ?c ?k⟩
      (case a => k_is); (case l => k_is); (case c => k_is); (case k => k_is)
    obtain ⟨f_add_piece, d_add_piece, h_add_piece⟩ : ∃ f d, SDP.Fn1 _ mg "add_piece" SDP.S_add_piece ["pattern", "words"] f d := by
      refine' ⟨_, _, SDP.mk_add_piece KX G ?a ?l ?c ?k⟩
      (case a => k_is); (case l => k_is); (case c => k_is); (case k => k_is)
    obtain ⟨f_add_corner, d_add_corner, h_add_corner⟩ : ∃ f d, SDP.Fn1 _ mg "add_corner" SDP.S_add_corner ["pattern", "words"] f d := by
      refine' ⟨_, _, SDP.mk_add_corner KX G ?a ?l ?c ?k⟩
      (case a => k_is); (case l => k_is); (case c => k_is); (case k => k_is)
    obtain ⟨f_add_seam, d_add_seam, h_add_seam⟩ : ∃ f d, SDP.Fn1 _ mg "add_seam" SDP.S_add_seam ["pattern", "words"] f d := by
      refine' ⟨_, _, SDP.mk_add_seam KX G ?a ?l ?c ?k⟩
      (case a => k_is); (case l => k_is); (case c => k_is); (case k => k_is)
    obtain ⟨f_add_line, d_add_line, h_add_line⟩ : ∃ f d, SDP.Fn1 _ mg "add_line" SDP.S_add_line ["pattern", "words"] f d := by
      refine' ⟨_, _, SDP.mk_add_line KX G ?a ?l ?c ?k⟩
      (case a => k_is); (case l => k_is); (case c => k_is); (case k => k_is)
    obtain ⟨f_read_pattern, d_read_pattern, h_read_pattern⟩ : ∃ f d, SDP.Fn1 _ mg "read_pattern" SDP.S_read_pattern ["p"] f d := by
      refine' ⟨_, _, SDP.mk_read_pattern KX G ?a ?l ?c ?k⟩
      (case a => k_is); (case l => k_is); (case c => k_is); (case k => k_is)
    obtain ⟨f_answer, d_answer, h_answer⟩ : ∃ f d, SDP.Fn1 _ mg "answer" SDP.sAnsw ["number", "told", "signed"] f d := by
      refine' ⟨_, _, SDP.mk_answer KX G ?a ?l ?c ?k⟩
      (case a => k_is); (case l => k_is); (case c => k_is); (case k => k_is)
    obtain ⟨f_check_lengths, d_check_lengths, h_check_lengths⟩ : ∃ f d, SDP.Fn1 _ mg "check_lengths" SDP.sCheck ["texts"] f d := by
      refine' ⟨_, _, SDP.mk_check_lengths KX G ?a ?l ?c ?k⟩
      (case a => k_is); (case l => k_is); (case c => k_is); (case k => k_is)
    obtain ⟨f_number_handed_in, d_number_handed_in, h_number_handed_in⟩ : ∃ f d, SDP.Fn1 _ mg "number_handed_in" SDP.S_number_handed_in ["above", "below"] f d := by
      refine' ⟨_, _, SDP.mk_number_handed_in KX G ?a ?l ?c ?k⟩
      (case a => k_is); (case l => k_is); (case c => k_is); (case k => k_is)
    obtain ⟨f_point_handed_in, d_point_handed_in, h_point_handed_in⟩ : ∃ f d, SDP.Fn1 _ mg "point_handed_in" SDP.S_point_handed_in ["x_above", "x_below", "y_above", "y_below"] f d := by
      refine' ⟨_, _, SDP.mk_point_handed_in KX G ?a ?l ?c ?k⟩
      (case a => k_is); (case l => k_is); (case c => k_is); (case k => k_is)
    obtain ⟨f_piece_at, d_piece_at, h_piece_at⟩ : ∃ f d, SDP.Fn1 _ mg "piece_at" SDP.S_piece_at ["pattern", "k"] f d := by
      refine' ⟨_, _, SDP.mk_piece_at KX G ?a ?l ?c ?k⟩
      (case a => k_is); (case l => k_is); (case c => k_is); (case k => k_is)
    obtain ⟨f_check_place, d_check_place, h_check_place⟩ : ∃ f d, SDP.Fn1 _ mg "check_place" SDP.S_check_place ["pattern", "k", "point"] f d := by
      refine' ⟨_, _, SDP.mk_check_place KX G ?a ?l ?c ?k⟩
      (case a => k_is); (case l => k_is); (case c => k_is); (case k => k_is)
    obtain ⟨f_main, d_main, h_main, hb_main⟩ : ∃ f d, SDP.Fn1 _ mg "ones" SDP.S_ones ["k", "x_above", "x_below", "y_above", "y_below", "p"] f d ∧ ∀ us : List Value, us.length = (["k", "x_above", "x_below", "y_above", "y_below", "p"] : List Str).length → bindArgs d ⟨us, []⟩ = pure ((["k", "x_above", "x_below", "y_above", "y_below", "p"] : List Str).zip us) := by
      refine' ⟨_, _, SDP.mk_ones KX G ?a ?l ?c ?k, ?b⟩
      (case a => k_is); (case l => k_is); (case c => k_is); (case k => k_is)
      (case b => exact fun us hl => match us, hl with | [_, _, _, _, _, _], _ => rfl)
    have c_KNOWN : SDP.Gs mg "KNOWN" SDP.KNOWNB := by
      refine' SDP.mk_gs KX G ?a ?e
      (case a => k_is); (case e => decide +kernel)
    have c_STRANGER : SDP.Gs mg "STRANGER" [63] := by
      refine' SDP.mk_gs KX G ?a ?e
      (case a => k_is); (case e => decide +kernel)
    have c_LONGEST_NAME : SDP.Gi mg "LONGEST_NAME" 16 := by
      refine' SDP.mk_gi KX G ?a
      (case a => k_is)
    have c_FINEST : SDP.Gi mg "FINEST" 4611686018427387904 := by
      refine' SDP.mk_gi KX G ?a
      (case a => k_is)
    have c_LONGEST_WHOLE : SDP.Gi mg "LONGEST_WHOLE" 19 := by
      refine' SDP.mk_gi KX G ?a
      (case a => k_is)
    have c_MOST_PIECES : SDP.Gi mg "MOST_PIECES" 8 := by
      refine' SDP.mk_gi KX G ?a
      (case a => k_is)
    have c_FEWEST_CORNERS : SDP.Gi mg "FEWEST_CORNERS" 3 := by
      refine' SDP.mk_gi KX G ?a
      (case a => k_is)
    have c_MOST_CORNERS : SDP.Gi mg "MOST_CORNERS" 16 := by
      refine' SDP.mk_gi KX G ?a
      (case a => k_is)
    have c_LONGEST_TEXT : SDP.Gi mg "LONGEST_TEXT" 4096 := by
      refine' SDP.mk_gi KX G ?a
      (case a => k_is)
    have c_OUTSIDE : SDP.Gi mg "OUTSIDE" 0 := by
      refine' SDP.mk_gi KX G ?a
      (case a => k_is)
    have c_ON_RIM : SDP.Gi mg "ON_RIM" 1 := by
      refine' SDP.mk_gi KX G ?a
      (case a => k_is)
    have c_INSIDE : SDP.Gi mg "INSIDE" 2 := by
      refine' SDP.mk_gi KX G ?a
      (case a => k_is)
    have z_len : mg "len" = none := by
      refine' SDP.mk_none KX G ?a
      (case a => k_is)
    have z_max : mg "max" = none := by
      refine' SDP.mk_none KX G ?a
      (case a => k_is)
    have z_min : mg "min" = none := by
      refine' SDP.mk_none KX G ?a
      (case a => k_is)
    have z_abs : mg "abs" = none := by
      refine' SDP.mk_none KX G ?a
      (case a => k_is)
    have z_str : mg "str" = none := by
      refine' SDP.mk_none KX G ?a
      (case a => k_is)
    have z_int : mg "int" = none := by
      refine' SDP.mk_none KX G ?a
      (case a => k_is)
    have z_ord : mg "ord" = none := by
      refine' SDP.mk_none KX G ?a
      (case a => k_is)
    have z_dict : mg "dict" = none := by
      refine' SDP.mk_none KX G ?a
      (case a => k_is)
    have z_enumerate : mg "enumerate" = none := by
      refine' SDP.mk_none KX G ?a
      (case a => k_is)
    have z_range : mg "range" = none := by
      refine' SDP.mk_none KX G ?a
      (case a => k_is)
    have z_set : mg "set" = none := by
      refine' SDP.mk_none KX G ?a
      (case a => k_is)
    have z_all : mg "all" = none := by
      refine' SDP.mk_none KX G ?a
      (case a => k_is)
    have z_sorted : mg "sorted" = none := by
      refine' SDP.mk_none KX G ?a
      (case a => k_is)
    obtain c_nodir : SDP.NoDir _ mg := by
      refine' SDP.mk_nodir KX G ?aN ?l ?e ?l1 ?e1 ?l2 ?e2
      (case aN => k_is); (case l => k_is); (case e => rfl); (case l1 => k_is); (case e1 => rfl); (case l2 => k_is); (case e2 => rfl)
    obtain ⟨R, hR⟩ : ∃ (R : SDP.RefAd), SDP.RefC _ mg R := by
      refine' ⟨_, SDP.mk_refc (mc := .type "type") KX G (SDP.er_Refusal KX G ?aC_Refusal ?xL_Refusal ?xB_Refusal ?sa_Refusal ?eC_Refusal ?tC_Refusal ?kC_Refusal ?ga_Refusal ?gg_Refusal ?hC_Refusal ?nN_Refusal ?nS_Refusal ?a_Refusal ?t_Refusal ?l_Refusal ?c_Refusal ?k_Refusal) (SDP.er_TooLong KX G ?aC_TooLong ?xL_TooLong ?xB_TooLong ?sa_TooLong ?eC_TooLong ?tC_TooLong ?kC_TooLong ?ga_TooLong ?gg_TooLong ?hC_TooLong ?nN_TooLong ?nS_TooLong ?a_TooLong ?t_TooLong ?l_TooLong ?c_TooLong ?k_TooLong) ?r1 ?r2 ?r3 ?zE ?vE ?xT⟩
      (case aC_Refusal => k_is)
      (case xL_Refusal => k_is)
      (case xB_Refusal => decide +kernel)
      (case sa_Refusal => k_is)
      (case eC_Refusal => k_is)
      (case tC_Refusal => k_is)
      (case kC_Refusal => k_is)
      (case ga_Refusal => k_is)
      (case gg_Refusal => k_is)
      (case hC_Refusal => k_is)
      (case nN_Refusal => k_is)
      (case nS_Refusal => k_is)
      (case a_Refusal => k_is)
      (case t_Refusal => k_is)
      (case l_Refusal => k_is)
      (case c_Refusal => k_is)
      (case k_Refusal => k_is)
      (case aC_TooLong => k_is)
      (case xL_TooLong => k_is)
      (case xB_TooLong => decide +kernel)
      (case sa_TooLong => k_is)
      (case eC_TooLong => k_is)
      (case tC_TooLong => k_is)
      (case kC_TooLong => k_is)
      (case ga_TooLong => k_is)
      (case gg_TooLong => k_is)
      (case hC_TooLong => k_is)
      (case nN_TooLong => k_is)
      (case nS_TooLong => k_is)
      (case a_TooLong => k_is)
      (case t_TooLong => k_is)
      (case l_TooLong => k_is)
      (case c_TooLong => k_is)
      (case k_TooLong => k_is)
      (case r2 => first | k_is | rfl | decide +kernel)
      (case r3 => first | k_is | rfl | decide +kernel)
      (case r1 => first | k_is | rfl | decide +kernel)
      (case zE => first | k_is | rfl | decide +kernel)
      (case vE => first | k_is | rfl | decide +kernel)
      (case xT => first | k_is | rfl | decide +kernel)
    obtain ⟨cNoPoint, fNoPoint, dNoPoint, eNoPoint, xNoPoint, _⟩ : ∃ (c f : Addr) (d : FuncData), (SDP.ErrC _ mg "NoPoint" c f ∧ L2.Fun _ "__init__" "NoPoint.__init__" SDP.S_NoPoint_I f d ∧ L2.Binds _ d ["self"] []) ∧ (∃ C, mg "Refusal" = some (.ref C) ∧ PySem.W.exmOne _ (.ref c) (.ref C) = some true) ∧ True := by
      refine' ⟨_, _, _, SDP.tie_err KX G (SDP.er_NoPoint KX G ?aC_NoPoint ?xL_NoPoint ?xB_NoPoint ?sa_NoPoint ?eC_NoPoint ?tC_NoPoint ?kC_NoPoint ?ga_NoPoint ?gg_NoPoint ?hC_NoPoint ?nN_NoPoint ?nS_NoPoint ?a_NoPoint ?t_NoPoint ?l_NoPoint ?c_NoPoint ?k_NoPoint) ?rC ?xx trivial⟩
      (case aC_NoPoint => k_is)
      (case xL_NoPoint => k_is)
      (case xB_NoPoint => decide +kernel)
      (case sa_NoPoint => k_is)
      (case eC_NoPoint => k_is)
      (case tC_NoPoint => k_is)
      (case kC_NoPoint => k_is)
      (case ga_NoPoint => k_is)
      (case gg_NoPoint => k_is)
      (case hC_NoPoint => k_is)
      (case nN_NoPoint => k_is)
      (case nS_NoPoint => k_is)
      (case a_NoPoint => k_is)
      (case t_NoPoint => k_is)
      (case l_NoPoint => k_is)
      (case c_NoPoint => k_is)
      (case k_NoPoint => k_is)
      (case rC => k_is)
      (case xx => first | k_is | rfl | decide +kernel)
    obtain ⟨CNoPoint, gC, xC⟩ := xNoPoint
    have xNoPoint := SDP.same_cls hR gC xC
    obtain ⟨cNoPattern, fNoPattern, dNoPattern, eNoPattern, xNoPattern, _⟩ : ∃ (c f : Addr) (d : FuncData), (SDP.ErrC _ mg "NoPattern" c f ∧ L2.Fun _ "__init__" "NoPattern.__init__" SDP.S_NoPattern_I f d ∧ L2.Binds _ d ["self", "line"] []) ∧ (∃ C, mg "Refusal" = some (.ref C) ∧ PySem.W.exmOne _ (.ref c) (.ref C) = some true) ∧ True := by
      refine' ⟨_, _, _, SDP.tie_err KX G (SDP.er_NoPattern KX G ?aC_NoPattern ?xL_NoPattern ?xB_NoPattern ?sa_NoPattern ?eC_NoPattern ?tC_NoPattern ?kC_NoPattern ?ga_NoPattern ?gg_NoPattern ?hC_NoPattern ?nN_NoPattern ?nS_NoPattern ?a_NoPattern ?t_NoPattern ?l_NoPattern ?c_NoPattern ?k_NoPattern) ?rC ?xx trivial⟩
      (case aC_NoPattern => k_is)
      (case xL_NoPattern => k_is)
      (case xB_NoPattern => decide +kernel)
      (case sa_NoPattern => k_is)
      (case eC_NoPattern => k_is)
      (case tC_NoPattern => k_is)
      (case kC_NoPattern => k_is)
      (case ga_NoPattern => k_is)
      (case gg_NoPattern => k_is)
      (case hC_NoPattern => k_is)
      (case nN_NoPattern => k_is)
      (case nS_NoPattern => k_is)
      (case a_NoPattern => k_is)
      (case t_NoPattern => k_is)
      (case l_NoPattern => k_is)
      (case c_NoPattern => k_is)
      (case k_NoPattern => k_is)
      (case rC => k_is)
      (case xx => first | k_is | rfl | decide +kernel)
    obtain ⟨CNoPattern, gC, xC⟩ := xNoPattern
    have xNoPattern := SDP.same_cls hR gC xC
    obtain ⟨cNoPiece, fNoPiece, dNoPiece, eNoPiece, xNoPiece, _⟩ : ∃ (c f : Addr) (d : FuncData), (SDP.ErrC _ mg "NoPiece" c f ∧ L2.Fun _ "__init__" "NoPiece.__init__" SDP.S_NoPiece_I f d ∧ L2.Binds _ d ["self"] []) ∧ (∃ C, mg "Refusal" = some (.ref C) ∧ PySem.W.exmOne _ (.ref c) (.ref C) = some true) ∧ True := by
      refine' ⟨_, _, _, SDP.tie_err KX G (SDP.er_NoPiece KX G ?aC_NoPiece ?xL_NoPiece ?xB_NoPiece ?sa_NoPiece ?eC_NoPiece ?tC_NoPiece ?kC_NoPiece ?ga_NoPiece ?gg_NoPiece ?hC_NoPiece ?nN_NoPiece ?nS_NoPiece ?a_NoPiece ?t_NoPiece ?l_NoPiece ?c_NoPiece ?k_NoPiece) ?rC ?xx trivial⟩
      (case aC_NoPiece => k_is)
      (case xL_NoPiece => k_is)
      (case xB_NoPiece => decide +kernel)
      (case sa_NoPiece => k_is)
      (case eC_NoPiece => k_is)
      (case tC_NoPiece => k_is)
      (case kC_NoPiece => k_is)
      (case ga_NoPiece => k_is)
      (case gg_NoPiece => k_is)
      (case hC_NoPiece => k_is)
      (case nN_NoPiece => k_is)
      (case nS_NoPiece => k_is)
      (case a_NoPiece => k_is)
      (case t_NoPiece => k_is)
      (case l_NoPiece => k_is)
      (case c_NoPiece => k_is)
      (case k_NoPiece => k_is)
      (case rC => k_is)
      (case xx => first | k_is | rfl | decide +kernel)
    obtain ⟨CNoPiece, gC, xC⟩ := xNoPiece
    have xNoPiece := SDP.same_cls hR gC xC
    obtain ⟨cNoPlace, fNoPlace, dNoPlace, eNoPlace, xNoPlace, _⟩ : ∃ (c f : Addr) (d : FuncData), (SDP.ErrC _ mg "NoPlace" c f ∧ L2.Fun _ "__init__" "NoPlace.__init__" SDP.S_NoPlace_I f d ∧ L2.Binds _ d ["self"] []) ∧ (∃ C, mg "Refusal" = some (.ref C) ∧ PySem.W.exmOne _ (.ref c) (.ref C) = some true) ∧ True := by
      refine' ⟨_, _, _, SDP.tie_err KX G (SDP.er_NoPlace KX G ?aC_NoPlace ?xL_NoPlace ?xB_NoPlace ?sa_NoPlace ?eC_NoPlace ?tC_NoPlace ?kC_NoPlace ?ga_NoPlace ?gg_NoPlace ?hC_NoPlace ?nN_NoPlace ?nS_NoPlace ?a_NoPlace ?t_NoPlace ?l_NoPlace ?c_NoPlace ?k_NoPlace) ?rC ?xx trivial⟩
      (case aC_NoPlace => k_is)
      (case xL_NoPlace => k_is)
      (case xB_NoPlace => decide +kernel)
      (case sa_NoPlace => k_is)
      (case eC_NoPlace => k_is)
      (case tC_NoPlace => k_is)
      (case kC_NoPlace => k_is)
      (case ga_NoPlace => k_is)
      (case gg_NoPlace => k_is)
      (case hC_NoPlace => k_is)
      (case nN_NoPlace => k_is)
      (case nS_NoPlace => k_is)
      (case a_NoPlace => k_is)
      (case t_NoPlace => k_is)
      (case l_NoPlace => k_is)
      (case c_NoPlace => k_is)
      (case k_NoPlace => k_is)
      (case rC => k_is)
      (case xx => first | k_is | rfl | decide +kernel)
    obtain ⟨CNoPlace, gC, xC⟩ := xNoPlace
    have xNoPlace := SDP.same_cls hR gC xC
    obtain ⟨cTooFine, fTooFine, dTooFine, eTooFine, xTooFine, _⟩ : ∃ (c f : Addr) (d : FuncData), (SDP.ErrC _ mg "TooFine" c f ∧ L2.Fun _ "__init__" "TooFine.__init__" SDP.S_TooFine_I f d ∧ L2.Binds _ d ["self"] []) ∧ (∃ C, mg "Refusal" = some (.ref C) ∧ PySem.W.exmOne _ (.ref c) (.ref C) = some true) ∧ True := by
      refine' ⟨_, _, _, SDP.tie_err KX G (SDP.er_TooFine KX G ?aC_TooFine ?xL_TooFine ?xB_TooFine ?sa_TooFine ?eC_TooFine ?tC_TooFine ?kC_TooFine ?ga_TooFine ?gg_TooFine ?hC_TooFine ?nN_TooFine ?nS_TooFine ?a_TooFine ?t_TooFine ?l_TooFine ?c_TooFine ?k_TooFine) ?rC ?xx trivial⟩
      (case aC_TooFine => k_is)
      (case xL_TooFine => k_is)
      (case xB_TooFine => decide +kernel)
      (case sa_TooFine => k_is)
      (case eC_TooFine => k_is)
      (case tC_TooFine => k_is)
      (case kC_TooFine => k_is)
      (case ga_TooFine => k_is)
      (case gg_TooFine => k_is)
      (case hC_TooFine => k_is)
      (case nN_TooFine => k_is)
      (case nS_TooFine => k_is)
      (case a_TooFine => k_is)
      (case t_TooFine => k_is)
      (case l_TooFine => k_is)
      (case c_TooFine => k_is)
      (case k_TooFine => k_is)
      (case rC => k_is)
      (case xx => first | k_is | rfl | decide +kernel)
    obtain ⟨CTooFine, gC, xC⟩ := xTooFine
    have xTooFine := SDP.same_cls hR gC xC
    obtain ⟨D, f_has_edge, d_has_edge, f_length, d_length, f_are_of_one_length, d_are_of_one_length, f_sewn_to, d_sewn_to, hD, h_has_edge, h_length, h_are_of_one_length, h_sewn_to⟩ : ∃ (D : SDP.PAd) (f_has_edge : Addr) (d_has_edge : FuncData) (f_length : Addr) (d_length : FuncData) (f_are_of_one_length : Addr) (d_are_of_one_length : FuncData) (f_sewn_to : Addr) (d_sewn_to : FuncData), SDP.PatC _ mg D ∧ SDP.Mt1 _ D.CT "has_edge" "Pattern.has_edge" SDP.S_Pattern_has_edge ["self", "edge"] f_has_edge d_has_edge ∧ SDP.Mt1 _ D.CT "length" "Pattern.length" SDP.S_Pattern_length ["self", "edge"] f_length d_length ∧ SDP.Mt1 _ D.CT "are_of_one_length" "Pattern.are_of_one_length" SDP.S_Pattern_are_of_one_length ["self", "first", "second"] f_are_of_one_length d_are_of_one_length ∧ SDP.Mt1 _ D.CT "sewn_to" "Pattern.sewn_to" SDP.S_Pattern_sewn_to ["self", "edge"] f_sewn_to d_sewn_to := by
      refine' ⟨_, _, _, _, _, _, _, _, _, SDP.tie_pat (SDP.mk_patc KX G ?aT ?tpg ?thd ?tpo ?tsa ?tmk ?tkc ?nTp ?nTs (SDP.mt_Pattern_init ?a_Pattern_init ?i_Pattern_init ?l_Pattern_init ?c_Pattern_init ?k_Pattern_init) ?aP ?ppg ?phd ?ppo ?psa ?pmk ?pkc ?nPn ?nPg ?nPc (SDP.mt_Piece_init ?a_Piece_init ?i_Piece_init ?l_Piece_init ?c_Piece_init ?k_Piece_init)) (SDP.tie_mt (SDP.mt_Pattern_has_edge ?a_Pattern_has_edge ?i_Pattern_has_edge ?l_Pattern_has_edge ?c_Pattern_has_edge ?k_Pattern_has_edge) (SDP.tie_mt (SDP.mt_Pattern_length ?a_Pattern_length ?i_Pattern_length ?l_Pattern_length ?c_Pattern_length ?k_Pattern_length) (SDP.tie_mt (SDP.mt_Pattern_are_of_one_length ?a_Pattern_are_of_one_length ?i_Pattern_are_of_one_length ?l_Pattern_are_of_one_length ?c_Pattern_are_of_one_length ?k_Pattern_are_of_one_length) (SDP.tie_mt1 (SDP.mt_Pattern_sewn_to ?a_Pattern_sewn_to ?i_Pattern_sewn_to ?l_Pattern_sewn_to ?c_Pattern_sewn_to ?k_Pattern_sewn_to) ))))⟩
      (case aT => k_is)
      (case aP => k_is)
      (case tpg => k_is)
      (case thd => k_is)
      (case tpo => k_is)
      (case tsa => k_is)
      (case tmk => k_is)
      (case tkc => k_is)
      (case nTp => k_is)
      (case nTs => k_is)
      (case ppg => k_is)
      (case phd => k_is)
      (case ppo => k_is)
      (case psa => k_is)
      (case pmk => k_is)
      (case pkc => k_is)
      (case nPn => k_is)
      (case nPg => k_is)
      (case nPc => k_is)
      (case a_Pattern_init => k_is)
      (case i_Pattern_init => k_is)
      (case l_Pattern_init => k_is)
      (case c_Pattern_init => k_is)
      (case k_Pattern_init => k_is)
      (case a_Piece_init => k_is)
      (case i_Piece_init => k_is)
      (case l_Piece_init => k_is)
      (case c_Piece_init => k_is)
      (case k_Piece_init => k_is)
      (case a_Pattern_has_edge => k_is)
      (case i_Pattern_has_edge => k_is)
      (case l_Pattern_has_edge => k_is)
      (case c_Pattern_has_edge => k_is)
      (case k_Pattern_has_edge => k_is)
      (case a_Pattern_length => k_is)
      (case i_Pattern_length => k_is)
      (case l_Pattern_length => k_is)
      (case c_Pattern_length => k_is)
      (case k_Pattern_length => k_is)
      (case a_Pattern_are_of_one_length => k_is)
      (case i_Pattern_are_of_one_length => k_is)
      (case l_Pattern_are_of_one_length => k_is)
      (case c_Pattern_are_of_one_length => k_is)
      (case k_Pattern_are_of_one_length => k_is)
      (case a_Pattern_sewn_to => k_is)
      (case i_Pattern_sewn_to => k_is)
      (case l_Pattern_sewn_to => k_is)
      (case c_Pattern_sewn_to => k_is)
      (case k_Pattern_sewn_to => k_is)
    have e := hmg.symm.trans h_main.m
    cases e
    refine ⟨d_main, cL, tP, fun s us hu => .of_eq (hb_main us hu), hT, nT, hCL, fun base _ _ TB => ?_⟩
    exact SDP.head_ones (hR) (hD) (TB) (hcL) h_side h_apart h_have_common_point z_max z_min h_edges_keep_apart z_len z_range h_common_below h_whole_corners h_twice_area h_after h_are_corners z_enumerate h_all_whole h_plus h_minus h_times h_edge_length h_alike h_has_edge h_length h_are_of_one_length h_pieces_may_be c_nodir z_set z_all h_last_is_whole c_FEWEST_CORNERS h_lowest h_negative z_abs c_FINEST h_number_text h_whole_of h_number_of z_str z_int c_LONGEST_WHOLE h_point_of_words h_index_of_word h_is_piece_name h_add_piece h_add_corner h_add_seam h_add_line c_LONGEST_NAME c_MOST_PIECES c_MOST_CORNERS h_seams_may_be z_ord z_dict c_KNOWN c_STRANGER h_text_of h_read_pattern eNoPattern xNoPattern eNoPiece xNoPiece h_piece_at h_edges_through h_goes_round c_ON_RIM c_INSIDE c_OUTSIDE eNoPoint xNoPoint h_number_handed_in h_point_handed_in eNoPlace h_ends h_over h_upright eTooFine h_number_at h_part_of_way h_partner h_sewn_to h_edges_at h_partners h_line_of h_point_words xNoPlace xTooFine h_in_order z_sorted h_answer h_check_lengths c_LONGEST_TEXT h_where_among h_where_lies h_bytes_of h_check_place h_places_one_with h_places_text h_main
  case S =>
    intro K tP H xs a hH hwi hask hx
    cases hx with
    | cons h0 t0 =>
      cases t0 with
      | cons h1 t1 =>
        cases t1 with
        | cons h2 t2 =>
          cases t2 with
          | cons h3 t3 =>
            cases t3 with
            | cons h4 t4 =>
              cases t4 with
              | cons h5 t5 =>
                cases t5
                cases h0
                cases h1
                cases h2
                cases h3
                cases h4
                cases h5 with
                | lst hs ha =>
                  have e := L2.ints_dw a.2.2.2.2.2.1 _ ha
                  subst e
                  exact SDP.ones_end (SDP.tabs_nil hH) hs hwi
