import PyProof.Rows.All
import Wide.All
import OpenK.AllK
import Wide.FinOn
import HandS.ForMost
import HandS.Codes
import HandS.IsInst
import HandS.WideBits
import PySem.Challenge.RW_nobodyspeaks_k01_marks_are_sets
set_option Elab.async false
set_option linter.all false
set_option maxRecDepth 100000
set_option maxHeartbeats 4000000
namespace My
open PySem PySem.Spec PyProof.Rows L2
def topS (i : Nat) : Stmt := PySem.Challenge.pw_nobodyspeaks_k01_marks_are_sets.main.body.getD i (.Pass ⟨0, 0, 0, 0⟩)
/-! ### heaps, defs -/
theorem same_upd {H : Hp} {p : Addr} {o : HO} (h : H p = none) : Same H (upd H p o) := fun b x e => by
  rw [upd_ne (ne_of_none e h)]
  exact e
/-- all that was tracked is as it was, but what stands at p and at q -/
def But (p q : Addr) (H H' : Hp) : Prop := ∀ b o, b ≠ p → b ≠ q → H b = some o → H' b = some o
theorem But.trans {p q : Addr} {H H1 H2 : Hp} (a : But p q H H1) (b : But p q H1 H2) : But p q H H2 := fun c o h1 h2 h => b c o h1 h2 (a c o h1 h2 h)
theorem But.of {p q : Addr} {H H1 : Hp} (a : Same H H1) : But p q H H1 := fun c o _ _ h => a c o h
theorem But.refl {p q : Addr} (H : Hp) : But p q H H := fun c o _ _ h => h
theorem small {n : Nat} (h : n ≤ 1000) : n ≤ sizeLine := Nat.le_of_lt (small1000 h)

structure DefAt (K : PySem.W.Frag) (mg : Str → Option Value) (x : Str) (st : Stmt) (ps : List Str) where
  f : Addr
  fd : FuncData
  F : Fun K x x st f fd
  m : mg x = some (.ref f)
  b : Binds K fd ps []
structure Callee (P : Program) (w : World) (K : PySem.W.Frag) (mg : Str → Option Value) (base : Heap) (k : Nat) (x : Str) (ps : List Str) (sp : Sp) where
  f : Addr
  fd : FuncData
  ok : FnOk P w K mg base CX0 k f fd ps sp
  mg : mg x = some (.ref f)
  kp : PySem.W.keepIn K (.ref f) = true
  b : Binds K fd ps []
def DefAt.callee {P : Program} {w : World} {K : PySem.W.Frag} {mg : Str → Option Value} {base : Heap} {k : Nat} {x : Str} {st : Stmt} {ps : List Str} {sp : Sp} (D : DefAt K mg x st ps) (ok : FnOk P w K mg base CX0 k D.f D.fd ps sp) : Callee P w K mg base k x ps sp :=
  ⟨D.f, D.fd, ok, D.m, D.F.kp, D.b⟩
theorem fn_false {P : Program} {w : World} {K : PySem.W.Frag} {mg : Str → Option Value} {base : Heap} {k : Nat} {f : Addr} {fd : FuncData} {ps : List Str} {sp : Sp} (no : ∀ vs H Q E, ¬ sp vs H Q E) : FnOk P w K mg base CX0 k f fd ps sp :=
  ⟨fun vs H Q E h => absurd h (no vs H Q E), fun A outer s H args us vs Q E _ _ _ _ h => absurd h (no vs H Q E)⟩

/-! ### a word between an expression and what follows -/
section
variable {X : Cx} {e : Expr}
def tECut (t : TE) : TE := fun σ H Q => ∃ Mid : VK, t σ H Mid ∧ ∀ v H', Mid v H' → Q v H'
theorem pe_cut {t : TE} (h : PE X e t) : PE X e (tECut t) := by
  refine ⟨fun pins s σ H Q I q => ?_⟩
  obtain ⟨Mid, q1, q2⟩ := q
  exact thn (h.run pins s σ H Mid I q1) fun u s' ⟨v, H', I', r, z⟩ => ⟨v, H', I', r, q2 v H' z⟩
def tTCut (t : TT) : TT := fun σ H Q => ∃ Mid : Bool → Hp → Prop, t σ H Mid ∧ ∀ b H', Mid b H' → Q b H'
theorem pt_cut {t : TT} (h : PT X e t) : PT X e (tTCut t) := by
  refine ⟨fun pins s σ H Q I q => ?_⟩
  obtain ⟨Mid, q1, q2⟩ := q
  exact thn (h.run pins s σ H Mid I q1) fun b s' ⟨H', I', z⟩ => ⟨H', I', q2 b H' z⟩
end
/-! ### rules told of a K (within comprehensions) -/
section
variable {X : Cx} {K : PySem.W.Frag}
def tTruth (K : PySem.W.Frag) (ta : TE) : TT := fun σ H Q => ta σ H fun x H' => ∃ k, TruV K x H' k ∧ Q k H'
theorem pt_truthK {a : Expr} {ta : TE} (K : PySem.W.Frag) (h : X.K = K) (ha : PE X a ta) (he : ∀ whole, isTrue a X.env whole = (do let v ← whole; standAt a.pos; holding [v] (truthy v))) : PT X a (tTruth K ta) := by
  subst h
  exact pt_truth ha he
theorem op_in_seqK (K : PySem.W.Frag) (h : X.K = K) : OpR X (compareOp .In) (rIn K false) := by
  subst h
  exact op_in_seq
theorem op_notIn_seqK (K : PySem.W.Frag) (h : X.K = K) : OpR X (compareOp .NotIn) (rIn K true) := by
  subst h
  exact op_notIn_seq
theorem ix_listK (K : PySem.W.Frag) (h : X.K = K) : IxR X (rIxL K) := by
  subst h
  exact ix_list
theorem ix_tupK (K : PySem.W.Frag) (h : X.K = K) : IxR X (rIxT K) := by
  subst h
  exact ix_tup
theorem op_eqDK (K : PySem.W.Frag) (h : X.K = K) (hu : X.A.units + 64 < cLine) : OpR X (compareOp .Eq) (rEqD K) := by
  subst h
  exact op_eqD hu
theorem op_neDK (K : PySem.W.Frag) (h : X.K = K) (hu : X.A.units + 64 < cLine) : OpR X (compareOp .NotEq) (rNeD K) := by
  subst h
  exact op_neD hu
end
/-! ### the law's drawing -/
/-- a drawing state stands at p: its cells at q -/
def StOk (H : Hp) (p q : Addr) : Prop := ∃ (cs : List Int) (a b : Int), H p = some (.lst [.ref q, .int a, .int b]) ∧ H q = some (.lst (cs.map V.int)) ∧ 0 ≤ b ∧ b < 2147483647
theorem StOk.ne {H : Hp} {p q : Addr} (h : StOk H p q) : p ≠ q := by
  obtain ⟨cs, a, b, h1, h2, _⟩ := h
  intro e
  rw [e, h2] at h1
  cases cs with
  | nil => cases h1
  | cons c r => injection h1 with h1; injection h1 with h1; injection h1 with h1 _; cases h1
theorem StOk.keep {H H' : Hp} {p q : Addr} (h : StOk H p q) (e : Same H H') : StOk H' p q := by
  obtain ⟨cs, a, b, h1, h2, h3⟩ := h
  exact ⟨cs, a, b, e _ _ h1, e _ _ h2, h3⟩
theorem StOk.free {H : Hp} {p q c : Addr} (h : StOk H p q) (hc : H c = none) : c ≠ p ∧ c ≠ q := by
  obtain ⟨cs, a, b, h1, h2, _⟩ := h
  exact ⟨(ne_of_none h1 hc).symm, (ne_of_none h2 hc).symm⟩
theorem canLay_ints (ns : List Int) : PyData.canLayAll0 (ns.map PyData.int) = true := by
  induction ns with
  | nil => rfl
  | cons n r ih =>
    show (PyData.canLay0 (.int n) && PyData.canLayAll0 (r.map PyData.int)) = true
    rw [ih] <;> rfl
theorem depth_ints (ns : List Int) : PyData.depthAll (ns.map PyData.int) = 0 := by
  induction ns with
  | nil => rfl
  | cons n r ih =>
    show max (PyData.depth (.int n)) (PyData.depthAll (r.map PyData.int)) = 0
    rw [ih] <;> rfl
theorem shaped_ints (ns : List Int) : SeqAt.shaped (.list (ns.map PyData.int)) = true := by
  unfold SeqAt.shaped
  have h1 : PyData.canLay0 (.list (ns.map PyData.int)) = true := canLay_ints ns
  have h2 : PyData.depth (.list (ns.map PyData.int)) = 1 := by
    show PyData.depthAll (ns.map PyData.int) + 1 = 1
    rw [depth_ints]
  rw [h1, h2] <;> rfl
theorem dp_ints {K : PySem.W.Frag} {H : Hp} {a : Addr} {ns : List Int} (h : SqL K H a (ns.map V.int)) : Dp K H (.ref a) (.list (ns.map PyData.int)) := by
  refine .lst h ?_
  clear h
  induction ns with
  | nil => exact .nil
  | cons n r ih => exact .cons (.int n) ih
def spState (K : PySem.W.Frag) : Sp := fun vs H Q _ => ∃ (a : Addr) (ns : List Int), vs = [.ref a] ∧ SqL K H a (ns.map V.int) ∧ ∀ p q H', H p = none → H q = none → Same H H' → StOk H' p q → Q (.ref p) H'
def spPick : Sp := fun vs H Q _ => ∃ (p q : Addr) (m : Int), vs = [.ref p, .int m] ∧ StOk H p q ∧ 1 ≤ m ∧ m < 1000000 ∧ ∀ (r : Int) H', 0 ≤ r → r < m → StOk H' p q → But p q H H' → Q (.int r) H'
structure Txt (K : PySem.W.Frag) (mg : Str → Option Value) : Prop where
  z_range : mg "range" = none
  z_list : mg "list" = none
  z_int : mg "int" = none
  z_isinstance : mg "isinstance" = none
  z_bool : mg "bool" = none
  z_str : mg "str" = none
  z_tuple : mg "tuple" = none
  z_len : mg "len" = none
  z_sum : mg "sum" = none
  z_min : mg "min" = none

section
variable {P : Program} {w : World} {K : PySem.W.Frag} {mg : Str → Option Value} {base : Heap} {f : Addr} {fd : FuncData}
abbrev s_l_state : Stmt := topS 5
theorem sc_l_state : FnScope ["script"] ["script"] (defScope s_l_state) := ⟨rfl, rfl, rfl, by decide +kernel, rfl, by decide +kernel, by decide +kernel⟩

theorem ok_state (F : Fun K "_law_state" "_law_state" s_l_state f fd) (T : Txt K mg) : FnOk P w K mg base CX0 1 f fd ["script"] (spState K) := by
  refine F.ok sc_l_state (fun vs H Q E h => ?_) (fun cdv A outer s H vs Q E hr h => ?_)
  · obtain ⟨a, ns, rfl, _⟩ := h
    rfl
  obtain ⟨a, ns, rfl, hS, k⟩ := h
  refine ⟨_, (pss_one (ps_ret (pe_lst (pa_cons (pe_callTy call_list_of (by rfl) T.z_list (by decide +kernel) (pa_cons (pv 0) pa_nil)) (pa_cons pe_int (pa_cons pe_int pa_nil)))))), ?_⟩
  refine ⟨_, rfl, a, ns.map V.int, rfl, .inl hS, fun q hq => ⟨by show 3 ≤ sizeLine; decide, fun p hp => ?_⟩⟩
  have hp0 : H p = none := (same_upd hq).free hp
  have hpq : q ≠ p := ne_of_none upd_same hp
  exact k p q _ hp0 hq ((same_upd hq).trans (same_upd hp)) ⟨ns, 0, 7, upd_same, by rw [upd_ne hpq, upd_same], by decide, by decide⟩
abbrev s_l_pick : Stmt := topS 6
theorem sc_l_pick : FnScope ["state", "many", "cell", "picked", "mixed"] ["state", "many"] (defScope s_l_pick) := ⟨rfl, rfl, rfl, by decide +kernel, rfl, by decide +kernel, by decide +kernel⟩

theorem seq0 {n : Nat} (h : 0 < n) : seqIndex? 0 n = some 0 := by
  simp only [seqIndex?]
  simp
  omega
theorem fmod_range {x m : Int} (h : 1 ≤ m) : 0 ≤ x.fmod m ∧ x.fmod m < m := by
  rw [Int.fmod_eq_emod_of_nonneg _ (by omega)]
  exact ⟨Int.emod_nonneg _ (by omega), Int.emod_lt_of_pos _ (by omega)⟩
theorem ok_pick (F : Fun K "_law_pick" "_law_pick" s_l_pick f fd) (T : Txt K mg) : FnOk P w K mg base CX0 1 f fd ["state", "many"] spPick := by
  refine F.ok sc_l_pick (fun vs H Q E h => ?_) (fun cdv A outer s H vs Q E hr h => ?_)
  · obtain ⟨p, q, m, rfl, _⟩ := h
    rfl
  obtain ⟨p, q, m, rfl, hSt, hm1, hm2, k⟩ := h
  refine ⟨_, (C8.pss_cut (ps_if (PW.pt (pw_and (pt_cmpR op_le (pe_ix ix_list (pv 0) pe_int (fun _ _ => rfl)) pe_int (nomark _)) (pw_and1 (pt_cmpR (op_neD hr.units) (pe_ix ix_list (pv 0) pe_int (fun _ _ => rfl)) (pe_lst pa_nil) (nomark _)))))
      (pss_cons (ps_set (i := 2) sc_l_pick.nd rfl (Or.inl rfl) (pe_bm PySem.F.plainAttrs_list PySem.F.slot_list_pop PySem.F.type_list_pop mt_popAt (pe_ix ix_list (pv 0) pe_int (fun _ _ => rfl)) (pa_cons pe_int pa_nil)))
      (pss_one (ps_if (pt_cmpR op_ge (pv 2) (pe_op op_pow pe_int pe_int) (nomark _))
        (pss_one (ps_asg (pe_op op_sub (pv 2) (pe_op op_pow pe_int pe_int)) (pg_sub (pv 0) pe_int set_list)))
        (pss_one (ps_asg (pe_op op_modN (pe_callTy call_int1 (by rfl) T.z_int (by decide +kernel) (pa_cons (pe_op op_add (pe_op op_mul (pe_ix ix_list (pv 0) pe_int (fun _ _ => rfl)) pe_int) (pv 2)) pa_nil)) pe_int) (pg_sub (pv 0) pe_int set_list))))))
      pss_nil)
    (pss_cons (ps_if (pt_cmpR op_gt (pe_ix ix_list (pv 0) pe_int (fun _ _ => rfl)) pe_int (nomark _))
      (pss_cons (ps_set (i := 3) sc_l_pick.nd rfl (Or.inl rfl) (pe_op op_modN (pe_callTy call_int1 (by rfl) T.z_int (by decide +kernel) (pa_cons (pe_ix ix_list (pv 0) pe_int (fun _ _ => rfl)) pa_nil)) (pv 1)))
      (pss_cons (ps_asg (pe_op op_fdivN (pe_ix ix_list (pv 0) pe_int (fun _ _ => rfl)) (pv 1)) (pg_sub (pv 0) pe_int set_list))
      (pss_one (ps_ret (pv 3)))))
      pss_nil)
    (pss_cons (ps_asg (pe_op op_modN (pe_callTy call_int1 (by rfl) T.z_int (by decide +kernel) (pa_cons (pe_op op_add (pe_op op_mul (pe_ix ix_list (pv 0) pe_int (fun _ _ => rfl)) pe_int) pe_int) pa_nil)) pe_int) (pg_sub (pv 0) pe_int set_list))
    (pss_cons (ps_set (i := 4) sc_l_pick.nd rfl (Or.inl rfl) (pe_op op_modN (pe_callTy call_int1 (by rfl) T.z_int (by decide +kernel) (pa_cons (pe_op op_add (pe_op op_mul (pe_ix ix_list (pv 0) pe_int (fun _ _ => rfl)) pe_int) (pe_op op_fdivN (pe_ix ix_list (pv 0) pe_int (fun _ _ => rfl)) pe_int)) pa_nil)) pe_int))
    (pss_one (ps_ret (pe_op op_modN (pe_callTy call_int1 (by rfl) T.z_int (by decide +kernel) (pa_cons (pe_op op_fdivN (pv 4) pe_int) pa_nil)) (pv 1)))))))), ?_⟩
  have hpq := hSt.ne
  obtain ⟨cs, a, b, hp, hq, hb0, hb1⟩ := id hSt
  refine ⟨fun σ' H' => ∃ c, σ' = [some (.ref p), some (.int m), c, none, none] ∧ StOk H' p q ∧ But p q H H', ?_, ?_⟩
  · -- if state[1] <= 1 and state[0] != []
    refine ⟨_, rfl, p, _, _, .int a, rfl, rfl, SqL.of hp, rfl, _, _, rfl, rfl, _, rfl, ?_⟩
    refine ite2 (fun c1 => ?_) (fun c1 => iteF ⟨none, rfl, hSt, But.refl H⟩)
    refine ⟨_, rfl, p, _, _, .ref q, rfl, rfl, SqL.of hp, rfl, Nat.zero_le _, fun e he => ?_⟩
    have s1 : Same H (upd H e (.lst [])) := same_upd he
    refine ⟨.list (cs.map PyData.int), .list ([].map PyData.int), dp_ints (SqL.of (s1 _ _ hq)), dp_ints (SqL.of upd_same), shaped_ints cs, shaped_ints [], _, rfl, ?_⟩
    cases cs with
    | nil => exact ⟨none, rfl, hSt.keep s1, But.of s1⟩
    | cons c r =>
      have hp1 := s1 _ _ hp
      have hq1 := s1 _ _ hq
      -- cell = state[0].pop(0)
      refine ⟨_, rfl, p, _, _, .ref q, rfl, rfl, SqL.of hp1, rfl, .inl ⟨rfl, _, SqL.of hq1⟩, q, _, 0, 0, .int c, rfl, rfl, hq1, by decide, by decide, seq0 (by rw [List.length_map, List.length_cons]; omega), rfl, ?_⟩
      have hp2 : (upd (upd H e (.lst [])) q (.lst ((List.map V.int (c :: r)).eraseIdx 0))) p = some (.lst [.ref q, .int a, .int b]) := by rw [upd_ne hpq]; exact hp1
      have hq2 : (upd (upd H e (.lst [])) q (.lst ((List.map V.int (c :: r)).eraseIdx 0))) q = some (.lst (r.map V.int)) := by rw [upd_same] <;> rfl
      have b2 : But p q H (upd (upd H e (.lst [])) q (.lst ((List.map V.int (c :: r)).eraseIdx 0))) := fun x o _ n2 z => by rw [upd_ne n2]; exact s1 _ _ z
      -- if cell >= 10 ** 18
      refine ⟨_, rfl, 10, 18, rfl, rfl, ⟨by decide, by decide, by decide⟩, _, _, rfl, rfl, _, rfl, ?_⟩
      refine ite2 (fun c2 => ?_) (fun c2 => ?_)
      · refine ⟨_, rfl, 10, 18, rfl, rfl, ⟨by decide, by decide, by decide⟩, _, _, rfl, rfl, _, rfl, p, _, 1, 1, rfl, rfl, hp2, rfl, ?_⟩
        refine ⟨_, rfl, ⟨r, _, b, upd_same, by rw [upd_ne hpq.symm]; exact hq2, hb0, hb1⟩, fun x o n1 n2 z => by rw [upd_ne n1]; exact b2 x o n1 n2 z⟩
      · refine ⟨_, rfl, p, _, _, .int b, rfl, rfl, SqL.of hp2, rfl, b, 16807, rfl, rfl, .inl ⟨by omega, by omega⟩, _, rfl, _, _, rfl, rfl, .inl ⟨_, rfl, _, _, rfl, rfl, (by show (2147483647 : Int) ≠ 0; decide), ?_⟩⟩
        refine ⟨_, rfl, p, _, 2, 2, rfl, rfl, hp2, rfl, ?_⟩
        have rg := fmod_range (x := b * 16807 + c) (m := 2147483647) (by decide)
        refine ⟨_, rfl, ⟨r, a, _, upd_same, by rw [upd_ne hpq.symm]; exact hq2, rg.1, rg.2⟩, fun x o n1 n2 z => by rw [upd_ne n1]; exact b2 x o n1 n2 z⟩
  · rintro σ' H' ⟨c, rfl, hSt', hB⟩
    clear hp hq hb0 hb1 hSt
    obtain ⟨cs, a, b, hp, hq, hb0, hb1⟩ := id hSt'
    -- if state[1] > 1
    refine ⟨_, rfl, p, _, _, .int a, rfl, rfl, SqL.of hp, rfl, _, _, rfl, rfl, _, rfl, ?_⟩
    refine ite2 (fun c1 => ?_) (fun c1 => ?_)
    · refine ⟨_, rfl, p, _, _, .int a, rfl, rfl, SqL.of hp, rfl, .inl ⟨_, rfl, _, rfl, _, _, rfl, rfl, by omega, ?_⟩⟩
      refine ⟨_, rfl, p, _, _, .int a, rfl, rfl, SqL.of hp, rfl, _, rfl, _, _, rfl, rfl, ⟨by omega, by omega⟩, _, rfl, p, _, 1, 1, rfl, rfl, hp, rfl, ?_⟩
      have rg := fmod_range (x := a) (m := m) hm1
      refine ⟨_, rfl, k _ _ rg.1 rg.2 ⟨cs, _, b, upd_same, by rw [upd_ne hpq.symm]; exact hq, hb0, hb1⟩ fun x o n1 n2 z => by rw [upd_ne n1]; exact hB x o n1 n2 z⟩
    · -- state[2] = int(state[2] * 69621 + 12345) % 2147483647
      refine ⟨_, rfl, p, _, _, .int b, rfl, rfl, SqL.of hp, rfl, b, 69621, rfl, rfl, .inl ⟨by omega, by omega⟩, _, _, rfl, rfl, .inl ⟨_, rfl, _, _, rfl, rfl, (by show (2147483647 : Int) ≠ 0; decide), ?_⟩⟩
      refine ⟨_, rfl, p, _, 2, 2, rfl, rfl, hp, rfl, ?_⟩
      have rg := fmod_range (x := b * 69621 + 12345) (m := 2147483647) (by decide)
      -- mixed = ..
      refine ⟨_, rfl, p, _, _, .int ((b * 69621 + 12345).fmod 2147483647), rfl, rfl, SqL.of upd_same, rfl, _, 48271, rfl, rfl, .inl ⟨by omega, by omega⟩, _, rfl, p, _, _, .int ((b * 69621 + 12345).fmod 2147483647), rfl, rfl, SqL.of upd_same, rfl, _, 8191, rfl, rfl, ⟨by decide, by decide⟩, _, _, rfl, rfl, .inl ⟨_, rfl, _, _, rfl, rfl, (by show (2147483629 : Int) ≠ 0; decide), ?_⟩⟩
      -- return int(mixed // 32) % many
      refine ⟨_, rfl, _, 32, rfl, rfl, ⟨by decide, by decide⟩, .inl ⟨_, rfl, _, rfl, _, _, rfl, rfl, by omega, ?_⟩⟩
      have rg2 := fun x => fmod_range (x := x) (m := m) hm1
      exact k _ _ (rg2 _).1 (rg2 _).2 ⟨cs, a, _, upd_same, by rw [upd_ne hpq.symm]; exact hq, rg.1, rg.2⟩ fun x o n1 n2 z => by rw [upd_ne n1]; exact hB x o n1 n2 z
end
/-! ### marks: the mathematics -/
abbrev J (a b : Int) : Int := Builtin.bitOr a b
def W (a b : Int) : Bool := decide (J a b = b)
def R (a : Int) : Prop := 0 ≤ a ∧ a < 64
instance (a : Int) : Decidable (R a) := by unfold R; infer_instance
theorem nat_of {a : Int} (h : R a) : ∃ n : Nat, n < 64 ∧ a = (n : Int) := ⟨a.toNat, by have := h.1; have := h.2; omega, by have := h.1; omega⟩
theorem J_nat (n m : Nat) : J (n : Int) (m : Int) = ((n ||| m : Nat) : Int) := by
  show Builtin.bitOr _ _ = _
  rw [Bits.bitOr_pp (by omega) (by omega), Int.toNat_natCast, Int.toNat_natCast]
theorem J_R {a b : Int} (ha : R a) (hb : R b) : R (J a b) := by
  obtain ⟨n, hn, rfl⟩ := nat_of ha
  obtain ⟨m, hm, rfl⟩ := nat_of hb
  rw [J_nat]
  have := Nat.or_lt_two_pow (n := 6) hn hm
  exact ⟨by omega, by omega⟩
theorem J_comm {a b : Int} (ha : R a) (hb : R b) : J a b = J b a := by
  obtain ⟨n, hn, rfl⟩ := nat_of ha
  obtain ⟨m, hm, rfl⟩ := nat_of hb
  rw [J_nat, J_nat, Nat.or_comm]
theorem J_assoc {a b c : Int} (ha : R a) (hb : R b) (hc : R c) : J (J a b) c = J a (J b c) := by
  obtain ⟨n, hn, rfl⟩ := nat_of ha
  obtain ⟨m, hm, rfl⟩ := nat_of hb
  obtain ⟨k, hk, rfl⟩ := nat_of hc
  rw [J_nat, J_nat, J_nat, J_nat, Nat.or_assoc]
theorem J_self {a : Int} (ha : R a) : J a a = a := by
  obtain ⟨n, hn, rfl⟩ := nat_of ha
  rw [J_nat, Nat.or_self]
theorem J_zero {a : Int} (ha : R a) : J 0 a = a := by
  obtain ⟨n, hn, rfl⟩ := nat_of ha
  have e : J ((0 : Nat) : Int) (n : Int) = ((0 ||| n : Nat) : Int) := J_nat 0 n
  rw [Nat.zero_or] at e
  exact e
theorem all64 {p : Int → Bool} (h : ((List.range 64).all fun n => p (n : Int)) = true) {a : Int} (ha : R a) : p a = true := by
  obtain ⟨n, hn, rfl⟩ := nat_of ha
  exact List.all_eq_true.mp h n (List.mem_range.mpr hn)
theorem J_top {a : Int} (ha : R a) : J a 63 = 63 := of_decide_eq_true (all64 (p := fun a => decide (J a 63 = 63)) (by decide +kernel) ha)
theorem W_self {a : Int} (ha : R a) : W a a = true := decide_eq_true (J_self ha)
theorem W_left {a b : Int} (ha : R a) (hb : R b) : W a (J a b) = true := decide_eq_true (by rw [← J_assoc ha ha hb, J_self ha])
theorem W_right {a b : Int} (ha : R a) (hb : R b) : W b (J a b) = true := by
  rw [J_comm ha hb]
  exact W_left hb ha
theorem W_iff {a b : Int} : W a b = true ↔ J a b = b := ⟨of_decide_eq_true, decide_eq_true⟩
theorem W_anti {a b : Int} (ha : R a) (hb : R b) : (W a b && W b a) = decide (a = b) := by
  by_cases e : a = b
  · rw [← e, W_self ha, decide_eq_true rfl] <;> rfl
  · rw [decide_eq_false e]
    cases h1 : W a b with
    | false => rfl
    | true =>
      cases h2 : W b a with
      | false => rfl
      | true => exact absurd ((W_iff.mp h2).symm.trans ((J_comm hb ha).trans (W_iff.mp h1))) e
theorem W_trans {a b c : Int} (ha : R a) (hb : R b) (hc : R c) (h1 : W a b = true) (h2 : W b c = true) : W a c = true := by
  rw [W_iff] at *
  rw [← h2, ← J_assoc ha hb hc, h1]
theorem W_join {a b c : Int} (ha : R a) (hb : R b) (hc : R c) : W (J a b) c = (W a c && W b c) := by
  have e : (W a c && W b c) = true → W (J a b) c = true := fun h => by
    rw [Bool.and_eq_true, W_iff, W_iff] at h
    rw [W_iff, J_assoc ha hb hc, h.2, h.1]
  have e2 : W (J a b) c = true → (W a c && W b c) = true := fun h => by
    rw [Bool.and_eq_true]
    exact ⟨W_trans ha (J_R ha hb) hc (W_left ha hb) h, W_trans hb (J_R ha hb) hc (W_right ha hb) h⟩
  rw [Bool.eq_iff_iff]
  exact ⟨e2, e⟩
/-- the channels, as channels_of finds them -/
def chTo (m : Int) (i : Nat) : List Int := ((List.range i).filter fun c => Builtin.bitAnd (m / 2 ^ c) 1 != 0).map Int.ofNat
def chL (m : Int) : List Int := chTo m (Builtin.Int.intBits m)
theorem bits_le {m : Int} (h : R m) : Builtin.Int.intBits m ≤ 6 := of_decide_eq_true (all64 (p := fun m => decide (Builtin.Int.intBits m ≤ 6)) (by decide +kernel) h)
theorem chTo_step (m : Int) (i : Nat) : chTo m (i + 1) = chTo m i ++ (if (Builtin.bitAnd (m / 2 ^ i) 1 != 0) = true then [(i : Int)] else []) := by
  unfold chTo
  rw [List.range_succ, List.filter_append, List.map_append]
  congr 1
  cases h : (Builtin.bitAnd (m / 2 ^ i) 1 != 0) with
  | true => simp [List.filter, h]
  | false => simp [List.filter, h]
/-- the table of the law: [1, 2, 4, 8, 16, 32] -/
def P2 (i : Nat) : Int := [1, 2, 4, 8, 16, 32].getD i 0
abbrev tabV : List V := [.int 1, .int 2, .int 4, .int 8, .int 16, .int 32]
theorem tab_at : ∀ {i : Nat}, i < 6 → atI tabV (i : Int) = some (.int (P2 i))
  | 0, _ => rfl | 1, _ => rfl | 2, _ => rfl | 3, _ => rfl | 4, _ => rfl | 5, _ => rfl
  | n + 6, h => by omega
theorem P2_R : ∀ {i : Nat}, i < 6 → R (P2 i)
  | 0, _ => by decide | 1, _ => by decide | 2, _ => by decide | 3, _ => by decide | 4, _ => by decide | 5, _ => by decide
  | n + 6, h => by omega
theorem P2_pos : ∀ {i : Nat}, i < 6 → 0 < P2 i
  | 0, _ => by decide | 1, _ => by decide | 2, _ => by decide | 3, _ => by decide | 4, _ => by decide | 5, _ => by decide
  | n + 6, h => by omega
theorem chL_lt {m : Int} (h : R m) : ∀ c ∈ chL m, 0 ≤ c ∧ c < 6 := by
  intro c hc
  unfold chL chTo at hc
  obtain ⟨n, hn, rfl⟩ := List.mem_map.mp hc
  have h1 := List.mem_range.mp (List.mem_filter.mp hn).1
  have := bits_le h
  show 0 ≤ (n : Int) ∧ (n : Int) < 6
  omega
theorem chL_len {m : Int} (h : R m) : (chL m).length ≤ 6 := by
  unfold chL chTo
  rw [List.length_map]
  exact Nat.le_trans (List.length_filter_le _ _) (by rw [List.length_range]; exact bits_le h)
/-- the channels joined one by one -/
def bu (m : Int) (l : List Int) : Int := l.foldl (fun b c => J b (P2 c.toNat)) 0
theorem bu_all {m : Int} (h : R m) : bu m (chL m) = m := of_decide_eq_true (all64 (p := fun m => decide (bu m (chL m) = m)) (by decide +kernel) h)

def spJoin : Sp := fun vs H Q _ => ∃ a b, vs = [.int a, .int b] ∧ Q (.int (J a b)) H
def spWithin : Sp := fun vs H Q _ => ∃ a b, vs = [.int a, .int b] ∧ Q (.bl (W a b)) H
def spCh : Sp := fun vs H Q _ => ∃ m, vs = [.int m] ∧ R m ∧ ∀ (p : Addr) H', Same H H' → H p = none → H' p = some (.lst ((chL m).map V.int)) → Q (.ref p) H'
section
variable {P : Program} {w : World} {K : PySem.W.Frag} {mg : Str → Option Value} {base : Heap} {f : Addr} {fd : FuncData}
abbrev s_join : Stmt := topS 1
theorem sc_join : FnScope ["one", "two"] ["one", "two"] (defScope s_join) := ⟨rfl, rfl, rfl, by decide +kernel, rfl, by decide +kernel, by decide +kernel⟩

theorem ok_join (F : Fun K "join" "join" s_join f fd) : FnOk P w K mg base CX0 1 f fd ["one", "two"] spJoin := by
  refine F.ok sc_join (fun vs H Q E h => ?_) (fun cdv A outer s H vs Q E hr h => ?_)
  · obtain ⟨a, b, rfl, _⟩ := h
    rfl
  obtain ⟨a, b, rfl, k⟩ := h
  refine ⟨_, (pss_one (ps_ret (pe_op op_or (pv 0) (pv 1)))), ?_⟩
  exact ⟨_, rfl, _, rfl, a, b, rfl, rfl, k⟩
abbrev s_within : Stmt := topS 2
theorem sc_within : FnScope ["one", "two"] ["one", "two"] (defScope s_within) := ⟨rfl, rfl, rfl, by decide +kernel, rfl, by decide +kernel, by decide +kernel⟩

theorem ok_within (F : Fun K "within" "within" s_within f fd) : FnOk P w K mg base CX0 1 f fd ["one", "two"] spWithin := by
  refine F.ok sc_within (fun vs H Q E h => ?_) (fun cdv A outer s H vs Q E hr h => ?_)
  · obtain ⟨a, b, rfl, _⟩ := h
    rfl
  obtain ⟨a, b, rfl, k⟩ := h
  refine ⟨_, (pss_one (ps_ret (pe_cmpR op_eq (pe_op op_or (pv 0) (pv 1)) (pv 1) (nomark _)))), ?_⟩
  refine ⟨_, rfl, _, rfl, a, b, rfl, rfl, _, rfl, rfl, ?_⟩
  have e : decide (V.int (J a b) = V.int b) = W a b := by
    rw [dec_int]
    unfold W
    rw [Bool.beq_eq_decide_eq]
  show Q (.bl (decide (V.int (J a b) = V.int b))) H
  rw [e]
  exact k
abbrev s_channels_of : Stmt := topS 3
theorem sc_channels_of : FnScope ["mark", "channel"] ["mark"] (defScope s_channels_of) := ⟨rfl, rfl, rfl, by decide +kernel, rfl, by decide +kernel, by decide +kernel⟩

theorem ok_ch (F : Fun K "channels_of" "channels_of" s_channels_of f fd) (T : Txt K mg) : FnOk P w K mg base CX0 1 f fd ["mark"] spCh := by
  refine F.ok sc_channels_of (fun vs H Q E h => ?_) (fun cdv A outer s H vs Q E hr h => ?_)
  · obtain ⟨m, rfl, _⟩ := h
    rfl
  obtain ⟨m, rfl, hm, k⟩ := h
  refine ⟨_, (pss_one (ps_ret (pe_lc (own := [("channel", 1)]) (g := gName 1)  rfl sc_channels_of.nd (pi_range1 (by rfl) T.z_range (pa_cons (pe_bits (pv 0)) pa_nil)) (blkOk_by (own := [("channel", 1)]) (N := ["mark", "channel"]) (sc := defScope s_channels_of) (by decide +kernel)) (fun _ _ _ _ _ => pg_name (i := 1) sc_channels_of.nd rfl (Or.inl rfl)) (fun _ _ _ _ _ => (pts_one (pt_truthK K rfl (pe_op op_and (pe_op op_shr (pv 0) (pv 1)) pe_int) (by intro _; rfl)))) (fun _ _ _ _ _ => (pv 1))))), ?_⟩
  have hb := bits_le hm
  refine ⟨_, rfl, m, rfl, _, rfl, by omega, by omega, fun D hD => ?_⟩
  refine lc_range (lo := 0) (n := Builtin.Int.intBits m) (fun i H' => Same H H' ∧ H' D = some (.lst ((chTo m i).map V.int))) ⟨same_upd hD, upd_same⟩ (fun i H' hi hP => ?_) (fun H' hP => ?_)
  · have e0 : (0 : Int) + (i : Int) = (i : Int) := Int.zero_add _
    refine ⟨rfl, _, rfl, _, rfl, m, _, rfl, rfl, (by omega), _, 1, rfl, rfl, _, rfl, ?_⟩
    have et : (0 + (i : Int)).toNat = i := by omega
    rw [et]
    have st := chTo_step m i
    refine ite2 (fun c => ?_) (fun c => ?_)
    · rw [if_pos c] at st
      refine ⟨_, rfl, _, hP.2, ?_, fun b o z => ?_, ?_⟩
      · rw [List.length_map]
        refine Nat.lt_of_le_of_lt (m := i) ?_ (small1000 (by omega))
        unfold chTo
        rw [List.length_map]
        exact Nat.le_trans (List.length_filter_le _ _) (by rw [List.length_range]; exact Nat.le_refl _)
      · rw [upd_ne (ne_of_none z hD)]
        exact hP.1 b o z
      · rw [upd_same, st, List.map_append, e0] <;> rfl
    · rw [if_neg c, List.append_nil] at st
      exact ⟨hP.1, by rw [st]; exact hP.2⟩
  · exact k D H' hP.1 hD hP.2
end
/-! ### data, compared by the law's own strict comparison -/
/-- data of a depth below n, with lists that a range can walk -/
def DOk : Nat → PyData → Prop
  | 0, _ => False
  | _ + 1, .none => True
  | _ + 1, .bool _ => True
  | _ + 1, .int _ => True
  | _ + 1, .str _ => True
  | n + 1, .list xs => xs.length ≤ 100000 ∧ ∀ x ∈ xs, DOk n x
  | n + 1, .tuple xs => xs.length ≤ 100000 ∧ ∀ x ∈ xs, DOk n x
  | _ + 1, .dict _ => False
theorem dpl_len {K : PySem.W.Frag} {H : Hp} : ∀ {vs : List V} {ds : List PyData}, DpAll K H vs ds → vs.length = ds.length
  | _, _, .nil => rfl
  | _, _, .cons _ t => congrArg (· + 1) (dpl_len t)
theorem dpl_at {K : PySem.W.Frag} {H : Hp} : ∀ {vs : List V} {ds : List PyData} {i : Nat} {d : PyData}, DpAll K H vs ds → ds[i]? = some d → ∃ v, vs[i]? = some v ∧ Dp K H v d
  | _, _, _, _, .nil, e => by simp at e
  | _, _, 0, _, .cons h _, e => by
    simp at e
    subst e
    exact ⟨_, rfl, h⟩
  | _, _, i + 1, d, .cons _ t, e => by
    obtain ⟨v, h1, h2⟩ := dpl_at (i := i) (d := d) t (by simpa using e)
    exact ⟨v, by simpa using h1, h2⟩
theorem same_rd {H H' : Hp} {a : Addr} {u : HO} (e : Same H H') (h : Rd H a u) : Rd H' a u := by
  rcases h with h | ⟨o, h⟩
  · exact .inl (e a _ h)
  · exact .inr ⟨o, e a _ h⟩
theorem same_t {K : PySem.W.Frag} {H H' : Hp} {a : Addr} {xs : List V} (e : Same H H') (h : SqT K H a xs) : SqT K H' a xs := by
  rcases h with h | h
  · exact .inl (same_rd e h)
  · exact .inr h
mutual
theorem dp_keep {K : PySem.W.Frag} {H H' : Hp} (e : Same H H') : ∀ {v : V} {d : PyData}, Dp K H v d → Dp K H' v d
  | _, _, .non => .non
  | _, _, .bl b => .bl b
  | _, _, .int i => .int i
  | _, _, .str x => .str x
  | _, _, .lst h t => .lst (e.seq h) (dpl_keep e t)
  | _, _, .tup h t => .tup (same_t e h) (dpl_keep e t)
theorem dpl_keep {K : PySem.W.Frag} {H H' : Hp} (e : Same H H') : ∀ {vs : List V} {ds : List PyData}, DpAll K H vs ds → DpAll K H' vs ds
  | _, _, .nil => .nil
  | _, _, .cons h t => .cons (dp_keep e h) (dpl_keep e t)
end
theorem tyx_l {K : PySem.W.Frag} {H : Hp} {a : Addr} {xs : List V} (h : SqL K H a xs) : TyX K H (.ref a) (.type "list") := by
  rcases h with (h | ⟨o, h⟩) | ⟨o, its, n, h, c, _⟩
  · exact .base (.lst h)
  · exact .base (.frz h)
  · exact .kList h c
theorem tyx_t {K : PySem.W.Frag} {H : Hp} {a : Addr} {xs : List V} (h : SqT K H a xs) : TyX K H (.ref a) (.type "tuple") := by
  rcases h with (h | ⟨o, h⟩) | ⟨o, its, n, h, c, _⟩
  · exact .base (.tup h)
  · exact .fTuple h
  · exact .kTuple h c
theorem ifF {b : Bool} {A B : Prop} (hb : b = false) (h : B) : if b = true then A else B := by
  subst hb
  exact iteF h
theorem ifT {b : Bool} {A B : Prop} (hb : b = true) (h : A) : if b = true then A else B := by
  subst hb
  exact iteT h
theorem dI (a b : Int) : decide (V.int a = V.int b) = decide (a = b) := by
  rw [dec_int, Bool.beq_eq_decide_eq]
theorem dB (a b : Bool) : decide (V.bl a = V.bl b) = decide (a = b) := by
  rw [dec_bl]
  cases a <;> cases b <;> rfl
/-- the strict comparison of like data is True -/
def spSame (K : PySem.W.Frag) (n : Nat) : Sp := fun vs H Q _ => ∃ (x y : V) (d : PyData), vs = [x, y] ∧ Dp K H x d ∧ Dp K H y d ∧ DOk n d ∧ ∀ H', Same H H' → Q (.bl true) H'
section
variable {P : Program} {w : World} {K : PySem.W.Frag} {mg : Str → Option Value} {base : Heap} {f : Addr} {fd : FuncData}
abbrev s_l_same : Stmt := topS 7
theorem sc_l_same : FnScope ["actual", "due", "k"] ["actual", "due"] (defScope s_l_same) := ⟨rfl, rfl, rfl, by decide +kernel, rfl, by decide +kernel, by decide +kernel⟩

theorem ok_same {n : Nat} (F : Fun K "_law_same" "_law_same" s_l_same f fd) (T : Txt K mg) (C_l_same : Callee P w K mg base n "_law_same" ["actual", "due"] (spSame K n)) : FnOk P w K mg base CX0 (n + 1) f fd ["actual", "due"] (spSame K (n + 1)) := by
  refine F.ok sc_l_same (fun vs H Q E h => ?_) (fun cdv A outer s H vs Q E hr h => ?_)
  · obtain ⟨x, y, d, rfl, _⟩ := h
    rfl
  obtain ⟨x, y, d, rfl, hx, hy, hd, k⟩ := h
  have k0 : ∀ z : Bool, z = true → Q (.bl z) H := fun z e => by
    rw [e]
    exact k H (Same.refl H)
  refine ⟨_, (pss_cons (ps_if (pt_cmpR op_isN (pv 1) pe_non (nomark _))
      (pss_one (ps_ret (pe_cmpR op_isN (pv 0) pe_non (nomark _))))
      pss_nil)
    (pss_cons (ps_if (pt_val (pe_callB call_isi (by rfl) T.z_isinstance (by decide +kernel) (pa_cons (pv 1) (pa_cons (pe_bltn (v := .ty "bool") (by rfl) T.z_bool (by decide +kernel) rfl) pa_nil))))
      (pss_one (ps_ret (pe_and (pe_callB call_isi (by rfl) T.z_isinstance (by decide +kernel) (pa_cons (pv 0) (pa_cons (pe_bltn (v := .ty "bool") (by rfl) T.z_bool (by decide +kernel) rfl) pa_nil))) (pe_one (pe_cmpR op_eq (pv 0) (pv 1) (nomark _))))))
      pss_nil)
    (pss_cons (ps_if (pt_val (pe_callB call_isi (by rfl) T.z_isinstance (by decide +kernel) (pa_cons (pv 1) (pa_cons (pe_bltn (v := .ty "int") (by rfl) T.z_int (by decide +kernel) rfl) pa_nil))))
      (pss_one (ps_ret (pe_and (pe_callB call_isi (by rfl) T.z_isinstance (by decide +kernel) (pa_cons (pv 0) (pa_cons (pe_bltn (v := .ty "int") (by rfl) T.z_int (by decide +kernel) rfl) pa_nil))) (pe_and (pe_not (pe_callB call_isi (by rfl) T.z_isinstance (by decide +kernel) (pa_cons (pv 0) (pa_cons (pe_bltn (v := .ty "bool") (by rfl) T.z_bool (by decide +kernel) rfl) pa_nil)))) (pe_one (pe_cmpR op_eq (pv 0) (pv 1) (nomark _)))))))
      pss_nil)
    (pss_cons (ps_if (pt_val (pe_callB call_isi (by rfl) T.z_isinstance (by decide +kernel) (pa_cons (pv 1) (pa_cons (pe_bltn (v := .ty "str") (by rfl) T.z_str (by decide +kernel) rfl) pa_nil))))
      (pss_one (ps_ret (pe_and (pe_callB call_isi (by rfl) T.z_isinstance (by decide +kernel) (pa_cons (pv 0) (pa_cons (pe_bltn (v := .ty "str") (by rfl) T.z_str (by decide +kernel) rfl) pa_nil))) (pe_one (pe_cmpR op_eq (pv 0) (pv 1) (nomark _))))))
      pss_nil)
    (pss_cons (ps_if (PW.pt (pw_or (pt_cmpR op_ne (pe_callB call_isi (by rfl) T.z_isinstance (by decide +kernel) (pa_cons (pv 1) (pa_cons (pe_bltn (v := .ty "list") (by rfl) T.z_list (by decide +kernel) rfl) pa_nil))) (pe_callB call_isi (by rfl) T.z_isinstance (by decide +kernel) (pa_cons (pv 0) (pa_cons (pe_bltn (v := .ty "list") (by rfl) T.z_list (by decide +kernel) rfl) pa_nil))) (nomark _)) (pw_or1 (pt_cmpR op_ne (pe_callB call_isi (by rfl) T.z_isinstance (by decide +kernel) (pa_cons (pv 1) (pa_cons (pe_bltn (v := .ty "tuple") (by rfl) T.z_tuple (by decide +kernel) rfl) pa_nil))) (pe_callB call_isi (by rfl) T.z_isinstance (by decide +kernel) (pa_cons (pv 0) (pa_cons (pe_bltn (v := .ty "tuple") (by rfl) T.z_tuple (by decide +kernel) rfl) pa_nil))) (nomark _)))))
      (pss_one (ps_ret pe_bl))
      pss_nil)
    (pss_cons (ps_if (pt_cmpR op_ne (pe_callB call_len_seq (by rfl) T.z_len (by decide +kernel) (pa_cons (pv 0) pa_nil)) (pe_callB call_len_seq (by rfl) T.z_len (by decide +kernel) (pa_cons (pv 1) pa_nil)) (nomark _))
      (pss_one (ps_ret pe_bl))
      pss_nil)
    (pss_cons (ps_for PassesOwn.never rfl (pi_range1 (by rfl) T.z_range (pa_cons (pe_callB call_len_seq (by rfl) T.z_len (by decide +kernel) (pa_cons (pv 1) pa_nil)) pa_nil)) (pg_name (i := 2) sc_l_same.nd rfl (Or.inl rfl))
      (pss_one (ps_if (pt_not (pt_val (pe_call C_l_same.ok (hr.mono (by omega)) (by rfl) C_l_same.mg C_l_same.kp C_l_same.b .nil pass0 (pa_cons (pe_ix ix_seq (pv 0) (pv 2) (fun _ _ => rfl)) (pa_cons (pe_ix ix_seq (pv 1) (pv 2) (fun _ _ => rfl)) pa_nil)))))
        (pss_one (ps_ret pe_bl))
        pss_nil)))
    (pss_one (ps_ret pe_bl))))))))), ?_⟩
  cases hx with
  | non =>
    cases hy
    exact ⟨_, rfl, rfl, _, rfl, ifT (by rfl) ⟨_, rfl, rfl, k0 _ (by rfl)⟩⟩
  | bl b =>
    cases hy
    refine ⟨_, rfl, rfl, _, rfl, ifF (by rfl) ⟨_, rfl, _, .ty "bool", _, _, true, rfl, .ty "bool", (.base (.bl b)), kit_ty (by decide +kernel), _, rfl, ifT rfl ?_⟩⟩
    exact ⟨_, rfl, _, .ty "bool", _, _, true, rfl, .ty "bool", (.base (.bl b)), kit_ty (by decide +kernel), _, rfl, ifT rfl ⟨_, rfl, _, rfl, rfl, k0 _ (decide_eq_true rfl)⟩⟩
  | int i =>
    cases hy
    refine ⟨_, rfl, rfl, _, rfl, ifF (by rfl) ⟨_, rfl, _, .ty "bool", _, _, false, rfl, .ty "bool", (.base (.int i)), kit_ty (by decide +kernel), _, rfl, ifF rfl ⟨_, rfl, _, .ty "int", _, _, true, rfl, .ty "int", (.base (.int i)), kit_ty (by decide +kernel), _, rfl, ifT rfl ?_⟩⟩⟩
    refine ⟨_, rfl, _, .ty "int", _, _, true, rfl, .ty "int", (.base (.int i)), kit_ty (by decide +kernel), _, rfl, ifT rfl ⟨_, rfl, _, .ty "bool", _, _, false, rfl, .ty "bool", (.base (.int i)), kit_ty (by decide +kernel), _, rfl, _, rfl, ifT rfl ⟨_, rfl, _, rfl, rfl, k0 _ (decide_eq_true rfl)⟩⟩⟩
  | str z =>
    cases hy
    refine ⟨_, rfl, rfl, _, rfl, ifF (by rfl) ⟨_, rfl, _, .ty "bool", _, _, false, rfl, .ty "bool", (.base (.str z)), kit_ty (by decide +kernel), _, rfl, ifF rfl ⟨_, rfl, _, .ty "int", _, _, false, rfl, .ty "int", (.base (.str z)), kit_ty (by decide +kernel), _, rfl, ifF rfl ⟨_, rfl, _, .ty "str", _, _, true, rfl, .ty "str", (.base (.str z)), kit_ty (by decide +kernel), _, rfl, ifT rfl ?_⟩⟩⟩⟩
    exact ⟨_, rfl, _, .ty "str", _, _, true, rfl, .ty "str", (.base (.str z)), kit_ty (by decide +kernel), _, rfl, ifT rfl ⟨_, rfl, _, rfl, rfl, k0 _ (decide_eq_true rfl)⟩⟩
  | @lst a xs ds hs hxs =>
    cases hy with
    | @lst a' ys _ hs' hys =>
      have tx := tyx_l hs
      have ty := tyx_l hs'
      obtain ⟨hlen, hall⟩ : ds.length ≤ 100000 ∧ ∀ x ∈ ds, DOk n x := hd
      refine ⟨_, rfl, rfl, _, rfl, ifF (by rfl) ⟨_, rfl, _, .ty "bool", _, _, false, rfl, .ty "bool", ty, kit_ty (by decide +kernel), _, rfl, ifF rfl ⟨_, rfl, _, .ty "int", _, _, false, rfl, .ty "int", ty, kit_ty (by decide +kernel), _, rfl, ifF rfl ⟨_, rfl, _, .ty "str", _, _, false, rfl, .ty "str", ty, kit_ty (by decide +kernel), _, rfl, ifF rfl ?_⟩⟩⟩⟩
      refine ⟨_, rfl, _, .ty "list", _, _, true, rfl, .ty "list", ty, kit_ty (by decide +kernel), _, rfl, _, .ty "list", _, _, true, rfl, .ty "list", tx, kit_ty (by decide +kernel), rfl, _, rfl, ifF rfl ⟨_, rfl, _, .ty "tuple", _, _, false, rfl, .ty "tuple", ty, kit_ty (by decide +kernel), _, rfl, _, .ty "tuple", _, _, false, rfl, .ty "tuple", tx, kit_ty (by decide +kernel), rfl, _, rfl, ifF rfl ?_⟩⟩
      refine ⟨_, rfl, a, xs, rfl, .inl hs, _, rfl, a', ys, rfl, .inl hs', rfl, _, rfl, ifF (by rw [dI, dpl_len hxs, dpl_len hys, decide_eq_true rfl]; rfl) ?_⟩
      refine ⟨_, rfl, a', ys, rfl, .inl hs', _, rfl, ?_, ?_, for_range (lo := 0) (fun i σ H' => ∃ v, σ = [some (.ref a), some (.ref a'), v] ∧ Same H H') ⟨none, rfl, Same.refl H⟩ ?_ ?_⟩
      · omega
      · rw [dpl_len hys]
        omega
      · rintro i σ H2 hi ⟨v, rfl, s2⟩
        have hi' : i < ds.length := by
          have q := dpl_len hys
          omega
        have hd' := List.getElem?_eq_getElem hi'
        obtain ⟨u1, hu1, d1⟩ := dpl_at hxs hd'
        obtain ⟨u2, hu2, d2⟩ := dpl_at hys hd'
        have e0 : (0 : Int) + (i : Int) = (i : Int) := Int.zero_add _
        rw [e0]
        refine ⟨_, rfl, _, rfl, .inl ⟨a, xs, _, u1, rfl, rfl, s2.seq hs, atI_nat hu1, _, rfl, _, rfl, .inl ⟨a', ys, _, u2, rfl, rfl, s2.seq hs', atI_nat hu2, ?_⟩⟩⟩
        exact ⟨u1, u2, ds[i], rfl, dp_keep s2 d1, dp_keep s2 d2, hall _ (List.getElem_mem hi'), fun H3 s3 => ⟨_, rfl, ifF rfl ⟨_, rfl, s2.trans s3⟩⟩⟩
      · rintro σ H2 ⟨v, rfl, s2⟩
        exact k H2 s2
  | @tup a xs ds hs hxs =>
    cases hy with
    | @tup a' ys _ hs' hys =>
      have tx := tyx_t hs
      have ty := tyx_t hs'
      obtain ⟨hlen, hall⟩ : ds.length ≤ 100000 ∧ ∀ x ∈ ds, DOk n x := hd
      refine ⟨_, rfl, rfl, _, rfl, ifF (by rfl) ⟨_, rfl, _, .ty "bool", _, _, false, rfl, .ty "bool", ty, kit_ty (by decide +kernel), _, rfl, ifF rfl ⟨_, rfl, _, .ty "int", _, _, false, rfl, .ty "int", ty, kit_ty (by decide +kernel), _, rfl, ifF rfl ⟨_, rfl, _, .ty "str", _, _, false, rfl, .ty "str", ty, kit_ty (by decide +kernel), _, rfl, ifF rfl ?_⟩⟩⟩⟩
      refine ⟨_, rfl, _, .ty "list", _, _, false, rfl, .ty "list", ty, kit_ty (by decide +kernel), _, rfl, _, .ty "list", _, _, false, rfl, .ty "list", tx, kit_ty (by decide +kernel), rfl, _, rfl, ifF rfl ⟨_, rfl, _, .ty "tuple", _, _, true, rfl, .ty "tuple", ty, kit_ty (by decide +kernel), _, rfl, _, .ty "tuple", _, _, true, rfl, .ty "tuple", tx, kit_ty (by decide +kernel), rfl, _, rfl, ifF rfl ?_⟩⟩
      refine ⟨_, rfl, a, xs, rfl, .inr hs, _, rfl, a', ys, rfl, .inr hs', rfl, _, rfl, ifF (by rw [dI, dpl_len hxs, dpl_len hys, decide_eq_true rfl]; rfl) ?_⟩
      refine ⟨_, rfl, a', ys, rfl, .inr hs', _, rfl, ?_, ?_, for_range (lo := 0) (fun i σ H' => ∃ v, σ = [some (.ref a), some (.ref a'), v] ∧ Same H H') ⟨none, rfl, Same.refl H⟩ ?_ ?_⟩
      · omega
      · rw [dpl_len hys]
        omega
      · rintro i σ H2 hi ⟨v, rfl, s2⟩
        have hi' : i < ds.length := by
          have q := dpl_len hys
          omega
        have hd' := List.getElem?_eq_getElem hi'
        obtain ⟨u1, hu1, d1⟩ := dpl_at hxs hd'
        obtain ⟨u2, hu2, d2⟩ := dpl_at hys hd'
        have e0 : (0 : Int) + (i : Int) = (i : Int) := Int.zero_add _
        rw [e0]
        refine ⟨_, rfl, _, rfl, .inr (.inl ⟨a, xs, _, u1, rfl, rfl, same_t s2 hs, atI_nat hu1, _, rfl, _, rfl, .inr (.inl ⟨a', ys, _, u2, rfl, rfl, same_t s2 hs', atI_nat hu2, ?_⟩)⟩)⟩
        exact ⟨u1, u2, ds[i], rfl, dp_keep s2 d1, dp_keep s2 d2, hall _ (List.getElem_mem hi'), fun H3 s3 => ⟨_, rfl, ifF rfl ⟨_, rfl, s2.trans s3⟩⟩⟩
      · rintro σ H2 ⟨v, rfl, s2⟩
        exact k H2 s2
end
/-! ### the law's own channels and sums -/
def biOf (m : Int) (c : Nat) : Bool := decide ((m.fdiv (P2 c)).fmod 2 = 1)
def biTo (m : Int) (i : Nat) : List Int := ((List.range i).filter fun c => biOf m c).map Int.ofNat
abbrev biL (m : Int) : List Int := biTo m 6
theorem biTo_step (m : Int) (i : Nat) : biTo m (i + 1) = biTo m i ++ (if biOf m i = true then [(i : Int)] else []) := by
  unfold biTo
  rw [List.range_succ, List.filter_append, List.map_append]
  congr 1
  cases h : biOf m i with
  | true => simp [List.filter, h]
  | false => simp [List.filter, h]
theorem biTo_len (m : Int) (i : Nat) : (biTo m i).length ≤ i := by
  unfold biTo
  rw [List.length_map]
  exact Nat.le_trans (List.length_filter_le _ _) (by rw [List.length_range]; exact Nat.le_refl _)
def suOf (cs : List Int) (c : Nat) : Bool := inV (.int (c : Int)) (cs.map V.int)
def suTo (cs : List Int) (i : Nat) : List Int := ((List.range i).filter fun c => suOf cs c).map P2
def suL (cs : List Int) : Int := (suTo cs 6).sum
theorem suTo_step (cs : List Int) (i : Nat) : suTo cs (i + 1) = suTo cs i ++ (if suOf cs i = true then [P2 i] else []) := by
  unfold suTo
  rw [List.range_succ, List.filter_append, List.map_append]
  congr 1
  cases h : suOf cs i with
  | true => simp [List.filter, h]
  | false => simp [List.filter, h]
theorem suTo_len (cs : List Int) (i : Nat) : (suTo cs i).length ≤ i := by
  unfold suTo
  rw [List.length_map]
  exact Nat.le_trans (List.length_filter_le _ _) (by rw [List.length_range]; exact Nat.le_refl _)
theorem flat_ints (ns : List Int) : (ns.map V.int).all flatV = true := by
  induction ns with
  | nil => rfl
  | cons n r ih =>
    show (flatV (.int n) && (r.map V.int).all flatV) = true
    rw [ih] <;> rfl
/-- the channels of the one that are none of the other -/
def outTo (xs ys : List Int) (i : Nat) : List Int := (xs.take i).filter fun c => !inV (.int c) (ys.map V.int)
theorem outTo_step {xs ys : List Int} {i : Nat} {c : Int} (h : xs[i]? = some c) : outTo xs ys (i + 1) = outTo xs ys i ++ (if (!inV (.int c) (ys.map V.int)) = true then [c] else []) := by
  unfold outTo
  rw [List.take_add_one, h, List.filter_append]
  congr 1
  cases q : (!inV (V.int c) (ys.map V.int)) with
  | true => simp [List.filter, q]
  | false => simp [List.filter, q]
theorem outTo_len (xs ys : List Int) (i : Nat) : (outTo xs ys i).length ≤ xs.length := by
  unfold outTo
  refine Nat.le_trans (List.length_filter_le _ _) ?_
  rw [List.length_take]
  exact Nat.min_le_right _ _
theorem fact1 {a : Int} (h : R a) : chL a = biL a := of_decide_eq_true (all64 (p := fun a => decide (chL a = biL a)) (by decide +kernel) h)
def ok2 (a b : Int) : Bool := decide (J a b = suL (biL a ++ biL b)) && (W a b == PyData.eqv (.list ((outTo (biL a) (biL b) (biL a).length).map PyData.int)) (.list ([].map PyData.int)))
theorem fact2 {a b : Int} (ha : R a) (hb : R b) : ok2 a b = true := by
  have h := all64 (p := fun a => (List.range 64).all fun n => ok2 a (n : Int)) (by decide +kernel) ha
  obtain ⟨n, hn, rfl⟩ := nat_of hb
  exact List.all_eq_true.mp h n (List.mem_range.mpr hn)
theorem fact_sum {a b : Int} (ha : R a) (hb : R b) : suL (biL a ++ biL b) = J a b := by
  have h := fact2 ha hb
  unfold ok2 at h
  rw [Bool.and_eq_true] at h
  exact (of_decide_eq_true h.1).symm
theorem fact_in {a b : Int} (ha : R a) (hb : R b) : PyData.eqv (.list ((outTo (biL a) (biL b) (biL a).length).map PyData.int)) (.list ([].map PyData.int)) = W a b := by
  have h := fact2 ha hb
  unfold ok2 at h
  rw [Bool.and_eq_true] at h
  exact (eq_of_beq h.2).symm
def spBits : Sp := fun vs H Q _ => ∃ m, vs = [.int m] ∧ ∀ (p : Addr) H', Same H H' → H p = none → H' p = some (.lst ((biL m).map V.int)) → Q (.ref p) H'
def spSum (K : PySem.W.Frag) : Sp := fun vs H Q _ => ∃ (a : Addr) (cs : List Int), vs = [.ref a] ∧ SqL K H a (cs.map V.int) ∧ ∀ H', Same H H' → Q (.int (suL cs)) H'
def spLaw (K : PySem.W.Frag) : Sp := fun vs H Q _ => ∃ (a : Addr) (ns : List Int), vs = [.ref a] ∧ SqL K H a (ns.map V.int) ∧ ns.length ≤ 63 ∧ ∀ H', Q (.bl true) H'
theorem dok_int (n : Nat) (i : Int) : DOk (n + 1) (.int i) := trivial
theorem dok_ints (n : Nat) {ns : List Int} (h : ns.length ≤ 1000) : DOk (n + 2) (.list (ns.map PyData.int)) := by
  refine ⟨by rw [List.length_map]; omega, fun x hx => ?_⟩
  obtain ⟨i, _, rfl⟩ := List.mem_map.mp hx
  exact dok_int n i
theorem int_at {ns : List Int} {i : Nat} {y : V} (h : (ns.map V.int)[i]? = some y) : ∃ z, ns[i]? = some z ∧ y = .int z := by
  rw [List.getElem?_map] at h
  cases e : ns[i]? with
  | none =>
    rw [e] at h
    cases h
  | some z =>
    rw [e] at h
    exact ⟨z, rfl, (Option.some.inj h).symm⟩
section
variable {P : Program} {w : World} {K : PySem.W.Frag} {mg : Str → Option Value} {base : Heap} {f : Addr} {fd : FuncData}
abbrev s_l_bits : Stmt := topS 8
theorem sc_l_bits : FnScope ["mark", "found", "channel"] ["mark"] (defScope s_l_bits) := ⟨rfl, rfl, rfl, by decide +kernel, rfl, by decide +kernel, by decide +kernel⟩

theorem ok_bits (F : Fun K "_law_bits" "_law_bits" s_l_bits f fd) (T : Txt K mg) : FnOk P w K mg base CX0 1 f fd ["mark"] spBits := by
  refine F.ok sc_l_bits (fun vs H Q E h => ?_) (fun cdv A outer s H vs Q E hr h => ?_)
  · obtain ⟨m, rfl, _⟩ := h
    rfl
  obtain ⟨m, rfl, k⟩ := h
  refine ⟨_, (pss_cons (ps_set (i := 1) sc_l_bits.nd rfl (Or.inl rfl) (pe_lst pa_nil))
    (pss_cons (ps_for PassesOwn.never rfl (pi_range1 (by rfl) T.z_range (pa_cons pe_int pa_nil)) (pg_name (i := 2) sc_l_bits.nd rfl (Or.inl rfl))
      (pss_one (ps_if (pt_cmpR op_eq (pe_op op_modN (pe_op op_fdivN (pe_callTy call_int1 (by rfl) T.z_int (by decide +kernel) (pa_cons (pv 0) pa_nil)) (pe_ix ix_list (pe_lst (pa_cons pe_int (pa_cons pe_int (pa_cons pe_int (pa_cons pe_int (pa_cons pe_int (pa_cons pe_int pa_nil))))))) (pv 2) (fun _ _ => rfl))) pe_int) pe_int (nomark _))
        (pss_one (ps_expr (pe_bm PySem.F.plainAttrs_list PySem.F.slot_list_append PySem.F.type_list_append mt_append (pv 1) (pa_cons (pv 2) pa_nil))))
        pss_nil)))
    (pss_one (ps_ret (pv 1))))), ?_⟩
  refine ⟨Nat.zero_le _, fun D hD => ?_⟩
  refine ⟨6, rfl, by decide, by decide, for_range (lo := 0) (n := 6) (fun i σ H' => ∃ v, σ = [some (.int m), some (.ref D), v] ∧ Same H H' ∧ H' D = some (.lst ((biTo m i).map V.int))) ⟨none, rfl, same_upd hD, upd_same⟩ ?_ ?_⟩
  · rintro i σ H' hi ⟨v, rfl, sH, eD⟩
    have e0 : (0 : Int) + (i : Int) = (i : Int) := Int.zero_add _
    rw [e0]
    have st := biTo_step m i
    have pR := P2_R hi
    refine ⟨_, rfl, .inl ⟨_, rfl, (by show 6 ≤ sizeLine; decide), fun t ht => ?_⟩⟩
    have s2 := same_upd (o := .lst tabV) ht
    have pn : P2 i ≠ 0 := fun e => by
      have q := P2_pos hi
      omega
    refine ⟨_, rfl, t, tabV, _, .int (P2 i), rfl, rfl, SqL.of upd_same, tab_at hi, _, _, rfl, rfl, ⟨pn, by have := pR.1; have := pR.2; omega⟩, _, 2, rfl, rfl, (by show (2 : Int) ≠ 0; decide), rfl, _, rfl, ?_⟩
    have ec : decide (V.int ((m.fdiv (P2 i)).fmod 2) = V.int 1) = biOf m i := dI _ _
    refine ite2 (fun c => ?_) (fun c => ?_)
    · have c' : biOf m i = true := ec ▸ c
      rw [if_pos c'] at st
      refine ⟨_, rfl, .inl ⟨rfl, _, SqL.of (s2 _ _ eD)⟩, _, rfl, D, _, _, rfl, rfl, s2 _ _ eD, ?_, ?_⟩
      · rw [List.length_map]
        exact Nat.lt_of_le_of_lt (biTo_len m i) (small1000 (by omega))
      · refine ⟨_, rfl, fun b o z => ?_, ?_⟩
        · rw [upd_ne (ne_of_none z hD)]
          exact s2 _ _ (sH b o z)
        · rw [upd_same, st, List.map_append]
          rfl
    · have c' : ¬ biOf m i = true := ec ▸ c
      rw [if_neg c', List.append_nil] at st
      exact ⟨_, rfl, sH.trans s2, by rw [st]; exact s2 _ _ eD⟩
  · rintro σ H' ⟨v, rfl, sH, eD⟩
    exact ⟨_, rfl, k D H' sH hD eD⟩
abbrev s_l_sum : Stmt := topS 9
theorem sc_l_sum : FnScope ["channels", "channel"] ["channels"] (defScope s_l_sum) := ⟨rfl, rfl, rfl, by decide +kernel, rfl, by decide +kernel, by decide +kernel⟩

theorem ok_sum (F : Fun K "_law_sum" "_law_sum" s_l_sum f fd) (T : Txt K mg) : FnOk P w K mg base CX0 1 f fd ["channels"] (spSum K) := by
  refine F.ok sc_l_sum (fun vs H Q E h => ?_) (fun cdv A outer s H vs Q E hr h => ?_)
  · obtain ⟨a, cs, rfl, _⟩ := h
    rfl
  obtain ⟨a, cs, rfl, hS, k⟩ := h
  refine ⟨_, (pss_one (ps_ret (pe_callB (cr_sum rfl) (by rfl) T.z_sum (by decide +kernel) (pa_cons (pe_lc (own := [("channel", 1)]) (g := gName 1)  rfl sc_l_sum.nd (pi_range1 (by rfl) T.z_range (pa_cons pe_int pa_nil)) (blkOk_by (own := [("channel", 1)]) (N := ["channels", "channel"]) (sc := defScope s_l_sum) (by decide +kernel)) (fun _ _ _ _ _ => pg_name (i := 1) sc_l_sum.nd rfl (Or.inl rfl)) (fun _ _ _ _ _ => (pts_one (pt_cmpR (op_in_seqK K rfl) (pv 1) (pv 0) (by rfl)))) (fun _ _ _ _ _ => (pe_ix (ix_listK K rfl) (pe_lst (pa_cons pe_int (pa_cons pe_int (pa_cons pe_int (pa_cons pe_int (pa_cons pe_int (pa_cons pe_int pa_nil))))))) (pv 1) (fun _ _ => rfl)))) pa_nil)))), ?_⟩
  refine ⟨6, rfl, by decide, by decide, fun D hD => ?_⟩
  refine lc_range (lo := 0) (n := 6) (fun i H' => Same H H' ∧ H' D = some (.lst ((suTo cs i).map V.int))) ⟨same_upd hD, upd_same⟩ (fun i H' hi hP => ?_) (fun H' hP => ?_)
  · have e0 : (0 : Int) + (i : Int) = (i : Int) := Int.zero_add _
    rw [e0]
    have st := suTo_step cs i
    refine ⟨rfl, _, rfl, _, rfl, a, _, rfl, .inl (hP.1.seq hS), rfl, flat_ints cs, _, rfl, ?_⟩
    refine ite2 (fun c => ?_) (fun c => ?_)
    · have c' : suOf cs i = true := c
      rw [if_pos c'] at st
      refine ⟨(by show 6 ≤ sizeLine; decide), fun t ht => ⟨_, rfl, t, tabV, _, .int (P2 i), rfl, rfl, SqL.of upd_same, tab_at hi, _, same_upd ht _ _ hP.2, ?_, fun b o z => ?_, ?_⟩⟩
      · rw [List.length_map]
        exact Nat.lt_of_le_of_lt (suTo_len cs i) (small1000 (by omega))
      · rw [upd_ne (ne_of_none z hD)]
        exact same_upd ht _ _ (hP.1 b o z)
      · rw [upd_same, st, List.map_append]
        rfl
    · have c' : ¬ suOf cs i = true := c
      rw [if_neg c', List.append_nil] at st
      exact ⟨hP.1, by rw [st]; exact hP.2⟩
  · exact ⟨D, _, rfl, SqL.of hP.2, k H' hP.1⟩
abbrev s_law : Stmt := topS 10
theorem sc_law : FnScope ["script", "state", "others", "one", "own", "told", "two", "other", "k", "channel"] ["script"] (defScope s_law) := ⟨rfl, rfl, rfl, by decide +kernel, rfl, by decide +kernel, by decide +kernel⟩

theorem ok_law (F : Fun K "law" "law" s_law f fd) (T : Txt K mg) (C_join : Callee P w K mg base 1 "join" ["one", "two"] spJoin) (C_within : Callee P w K mg base 1 "within" ["one", "two"] spWithin)
    (C_channels_of : Callee P w K mg base 1 "channels_of" ["mark"] spCh) (C_l_state : Callee P w K mg base 1 "_law_state" ["script"] (spState K)) (C_l_pick : Callee P w K mg base 1 "_law_pick" ["state", "many"] spPick)
    (C_l_same : Callee P w K mg base 2 "_law_same" ["actual", "due"] (spSame K 2)) (C_l_bits : Callee P w K mg base 1 "_law_bits" ["mark"] spBits) (C_l_sum : Callee P w K mg base 1 "_law_sum" ["channels"] (spSum K)) : FnOk P w K mg base CX0 3 f fd ["script"] (spLaw K) := by
  refine F.ok sc_law (fun vs H Q E h => ?_) (fun cdv A outer s H vs Q E hr h => ?_)
  · obtain ⟨a, ns, rfl, _⟩ := h
    rfl
  obtain ⟨a, ns, rfl, hS, hlen, k⟩ := h
  refine ⟨_, (pss_cons (ps_set (i := 1) sc_law.nd rfl (Or.inr rfl) (pe_call C_l_state.ok (hr.mono (by omega)) (by rfl) C_l_state.mg C_l_state.kp C_l_state.b .nil pass0 (pa_cons (pv 0) pa_nil)))
    (pss_cons (ps_set (i := 2) sc_law.nd rfl (Or.inl rfl) (pe_op op_cat (pe_lst (pa_cons pe_int (pa_cons pe_int pa_nil))) (pe_lc (own := [("k", 8)]) (g := gName 8) (tt := tYes) rfl sc_law.nd (pi_range1 (by rfl) T.z_range (pa_cons (pe_op op_add pe_int (pe_callB (call_min2 rfl) (by rfl) T.z_min (by decide +kernel) (pa_cons pe_int (pa_cons (pe_callB call_len_seq (by rfl) T.z_len (by decide +kernel) (pa_cons (pv 0) pa_nil)) pa_nil)))) pa_nil)) (blkOk_by (own := [("k", 8)]) (N := ["script", "state", "others", "one", "own", "told", "two", "other", "k", "channel"]) (sc := defScope s_law) (by decide +kernel)) (fun _ _ _ _ _ => pg_name (i := 8) sc_law.nd rfl (Or.inl rfl)) (fun _ _ _ _ _ => pts_nil) (fun _ _ _ _ _ => (pe_call C_l_pick.ok (hr.mono (by omega)) (by rfl) C_l_pick.mg C_l_pick.kp C_l_pick.b .nil pass0 (pa_cons (pv 1) (pa_cons pe_int pa_nil)))))))
    (pss_cons (ps_for PassesOwn.never rfl (pi_range1 (by rfl) T.z_range (pa_cons pe_int pa_nil)) (pg_name (i := 3) sc_law.nd rfl (Or.inl rfl))
      (pss_cons (ps_set (i := 4) sc_law.nd rfl (Or.inl rfl) (pe_call C_l_bits.ok (hr.mono (by omega)) (by rfl) C_l_bits.mg C_l_bits.kp C_l_bits.b .nil pass0 (pa_cons (pv 3) pa_nil)))
      (pss_cons (ps_set (i := 5) sc_law.nd rfl (Or.inl rfl) (pe_call C_channels_of.ok (hr.mono (by omega)) (by rfl) C_channels_of.mg C_channels_of.kp C_channels_of.b .nil pass0 (pa_cons (pv 3) pa_nil)))
      (pss_cons (ps_if (pt_not (pt_val (pe_call C_l_same.ok (hr.mono (by omega)) (by rfl) C_l_same.mg C_l_same.kp C_l_same.b .nil pass0 (pa_cons (pv 5) (pa_cons (pv 4) pa_nil)))))
        (pss_one (ps_ret pe_bl))
        pss_nil)
      (pss_cons (ps_expr (pe_bm PySem.F.plainAttrs_list PySem.F.slot_list_append PySem.F.type_list_append mt_append (pv 5) (pa_cons pe_int pa_nil)))
      (pss_cons (ps_if (pt_not (pt_val (pe_call C_l_same.ok (hr.mono (by omega)) (by rfl) C_l_same.mg C_l_same.kp C_l_same.b .nil pass0 (pa_cons (pe_call C_channels_of.ok (hr.mono (by omega)) (by rfl) C_channels_of.mg C_channels_of.kp C_channels_of.b .nil pass0 (pa_cons (pv 3) pa_nil)) (pa_cons (pv 4) pa_nil)))))
        (pss_one (ps_ret pe_bl))
        pss_nil)
      (pss_one (ps_for PassesOwn.never rfl (pi_list (pv 2)) (pg_name (i := 6) sc_law.nd rfl (Or.inl rfl))
        (pss_cons (ps_set (i := 7) sc_law.nd rfl (Or.inr rfl) (pe_call C_l_bits.ok (hr.mono (by omega)) (by rfl) C_l_bits.mg C_l_bits.kp C_l_bits.b .nil pass0 (pa_cons (pv 6) pa_nil)))
        (pss_cons (ps_if (pt_not (pt_val (pe_call C_l_same.ok (hr.mono (by omega)) (by rfl) C_l_same.mg C_l_same.kp C_l_same.b .nil pass0 (pa_cons (pe_call C_join.ok (hr.mono (by omega)) (by rfl) C_join.mg C_join.kp C_join.b .nil pass0 (pa_cons (pv 3) (pa_cons (pv 6) pa_nil))) (pa_cons (pe_call C_l_sum.ok (hr.mono (by omega)) (by rfl) C_l_sum.mg C_l_sum.kp C_l_sum.b .nil pass0 (pa_cons (pe_op op_cat (pv 4) (pv 7)) pa_nil)) pa_nil)))))
          (pss_one (ps_ret pe_bl))
          pss_nil)
        (pss_one (ps_if (pt_not (pt_val (pe_call C_l_same.ok (hr.mono (by omega)) (by rfl) C_l_same.mg C_l_same.kp C_l_same.b .nil pass0 (pa_cons (pe_call C_within.ok (hr.mono (by omega)) (by rfl) C_within.mg C_within.kp C_within.b .nil pass0 (pa_cons (pv 3) (pa_cons (pv 6) pa_nil))) (pa_cons (pe_cmpR (op_eqD hr.units) (pe_lc (own := [("channel", 9)]) (g := gName 9)  rfl sc_law.nd (pi_list (pv 4)) (blkOk_by (own := [("channel", 9)]) (N := ["script", "state", "others", "one", "own", "told", "two", "other", "k", "channel"]) (sc := defScope s_law) (by decide +kernel)) (fun _ _ _ _ _ => pg_name (i := 9) sc_law.nd rfl (Or.inl rfl)) (fun _ _ _ _ _ => (pts_one (pt_cmpR (op_notIn_seqK K rfl) (pv 9) (pv 7) (by rfl)))) (fun _ _ _ _ _ => (pv 9))) (pe_lst pa_nil) (nomark _)) pa_nil)))))
          (pss_one (ps_ret pe_bl))
          pss_nil))))))))))))
    (pss_one (ps_ret pe_bl))))), ?_⟩
  refine ⟨_, rfl, a, ns, rfl, hS, fun p q H1 _ _ s1 St => ?_⟩
  have hpq := St.ne
  -- others = [0, 63] + [..]
  refine ⟨(by show 2 ≤ sizeLine; decide), fun r hr0 => ?_⟩
  have s2 : Same H1 (upd H1 r (.lst [.int 0, .int 63])) := same_upd hr0
  have rpq := St.free hr0
  refine ⟨_, rfl, a, _, rfl, .inl ((s1.trans s2).seq hS), _, _, rfl, 1, _, rfl, rfl, _, rfl, ?_, ?_, fun D hD => ?_⟩
  · rw [List.length_map]
    split <;> omega
  · rw [List.length_map]
    split <;> omega
  have Dpq := (St.keep s2).free hD
  have hrD : r ≠ D := ne_of_none upd_same hD
  refine lc_range (lo := 0) (fun i H' => StOk H' p q ∧ H' r = some (.lst [.int 0, .int 63]) ∧ ∃ acc : List Int, H' D = some (.lst (acc.map V.int)) ∧ acc.length = i ∧ ∀ x ∈ acc, R x)
    ⟨St.keep (s2.trans (same_upd hD)), by rw [upd_ne hrD, upd_same], [], upd_same, rfl, fun _ h => nomatch h⟩ (fun i H' hi hP => ?_) (fun H' hP => ?_)
  · obtain ⟨St', er, acc, eD, el, hall⟩ := hP
    refine ⟨rfl, ?_⟩
    unfold tYes
    refine iteT ?_
    refine ⟨_, rfl, p, q, 64, rfl, St', by decide, by decide, fun x H2 x0 x1 St2 B => ⟨_, B _ _ Dpq.1 Dpq.2 eD, ?_, ?_, ?_, acc ++ [x], ?_, ?_, ?_⟩⟩
    · rw [List.length_map, el]
      refine Nat.lt_of_lt_of_le hi ?_
      refine small ?_
      rw [List.length_map]
      split <;> omega
    · obtain ⟨cs, u, v, g1, g2, g3⟩ := St2
      exact ⟨cs, u, v, by rw [upd_ne Dpq.1.symm]; exact g1, by rw [upd_ne Dpq.2.symm]; exact g2, g3⟩
    · rw [upd_ne hrD]
      exact B _ _ rpq.1 rpq.2 er
    · rw [upd_same, List.map_append]
      rfl
    · rw [List.length_append, el]
      rfl
    · intro y hy
      rcases List.mem_append.mp hy with hy | hy
      · exact hall y hy
      · rw [List.mem_singleton.mp hy]
        exact ⟨x0, x1⟩
  · obtain ⟨St', er, acc, eD, el, hall⟩ := hP
    have hal : acc.length ≤ 64 := by
      rw [el, List.length_map]
      split <;> omega
    clear el
    refine ⟨r, D, _, _, rfl, rfl, er, eD, ?_, fun o ho => ?_⟩
    · rw [List.length_map]
      refine small ?_
      show 2 + acc.length ≤ 1000
      omega
    have oall : ∀ x ∈ (0 :: 63 :: acc), R x := by
      intro x hx
      rcases List.mem_cons.mp hx with rfl | hx
      · decide
      rcases List.mem_cons.mp hx with rfl | hx
      · decide
      exact hall x hx
    have eO : (upd H' o (.lst ([.int 0, .int 63] ++ acc.map V.int))) o = some (.lst ((0 :: 63 :: acc).map V.int)) := upd_same
    generalize (upd H' o (.lst ([.int 0, .int 63] ++ acc.map V.int))) = H3 at eO ⊢
    have olen : (0 :: 63 :: acc).length ≤ 66 := by
      show acc.length + 2 ≤ 66
      omega
    generalize (0 :: 63 :: acc) = os at eO oall olen
    clear hall hal eD er St' hrD Dpq hD rpq s2 hr0 hpq St s1 acc ho
    -- for one in range(64)
    refine ⟨64, rfl, by decide, by decide, for_range (lo := 0) (n := 64) (fun i σ H' => ∃ x3 x4 x5 x6 x7, σ = [some (.ref a), some (.ref p), some (.ref o), x3, x4, x5, x6, x7, none, none] ∧ Same H3 H') ⟨none, none, none, none, none, rfl, Same.refl H3⟩ ?_ ?_⟩
    · rintro i σ H4 hi ⟨x3, x4, x5, x6, x7, rfl, s4⟩
      have e0 : (0 : Int) + (i : Int) = (i : Int) := Int.zero_add _
      rw [e0]
      have Ri : R (i : Int) := ⟨by omega, by omega⟩
      generalize (i : Int) = one at Ri
      clear hi e0 i
      -- own, told
      refine ⟨_, rfl, one, rfl, fun w5 H5 s5 _ e5 => ?_⟩
      refine ⟨_, rfl, one, rfl, Ri, fun w6 H6 s6 n6 e6 => ?_⟩
      rw [fact1 Ri] at e6
      have ne56 : w5 ≠ w6 := ne_of_none e5 n6
      have bl : (biL one).length ≤ 1000 := Nat.le_trans (biTo_len one 6) (by decide)
      refine ⟨_, rfl, _, rfl, _, _, _, rfl, dp_ints (SqL.of e6), dp_ints (SqL.of (s6 _ _ e5)), dok_ints 0 bl, fun H7 s7 => ⟨_, rfl, ifF rfl ?_⟩⟩
      have e57 := s7 _ _ (s6 _ _ e5)
      -- told.append(9)
      refine ⟨_, rfl, .inl ⟨rfl, _, SqL.of (s7 _ _ e6)⟩, w6, _, _, rfl, rfl, s7 _ _ e6, ?_, ?_⟩
      · rw [List.length_map]
        exact small1000 bl
      have s8 : Same H4 (upd H7 w6 (.lst ((biL one).map V.int ++ [.int 9]))) := fun b u z => by
        rw [upd_ne (ne_of_none (s5 _ _ z) n6)]
        exact s7 _ _ (s6 _ _ (s5 _ _ z))
      have e58 : (upd H7 w6 (.lst ((biL one).map V.int ++ [.int 9]))) w5 = some (.lst ((biL one).map V.int)) := by
        rw [upd_ne ne56]
        exact e57
      generalize upd H7 w6 (.lst ((biL one).map V.int ++ [.int 9])) = H8 at s8 e58 ⊢
      have s38 := s4.trans s8
      clear e57 s7 n6 e6 s6 e5 s5 s4 s8
      refine ⟨_, rfl, one, rfl, Ri, fun w9 H9 s9 n9 e9 => ?_⟩
      rw [fact1 Ri] at e9
      refine ⟨_, rfl, _, _, _, rfl, dp_ints (SqL.of e9), dp_ints (SqL.of (s9 _ _ e58)), dok_ints 0 bl, fun H10 s10 => ⟨_, rfl, ifF rfl ?_⟩⟩
      have e5A := s10 _ _ (s9 _ _ e58)
      have s3A := s38.trans (s9.trans s10)
      clear e58 s38 s9 s10 n9 e9
      -- for two in others
      refine ⟨_, rfl, o, rfl, ⟨_, SqL.of (s3A _ _ eO)⟩, for_list (K := K) (a := o) (xs := os.map V.int) (fun j σ H' => ∃ y6 y7, σ = [some (.ref a), some (.ref p), some (.ref o), some (.int one), some (.ref w5), some (.ref w6), y6, y7, none, none] ∧ Same H10 H')
        ⟨x6, x7, rfl, Same.refl H10⟩ (fun j σ H' _ ⟨_, _, _, z⟩ => (s3A.trans z).seq (SqL.of eO)) ?_ ?_⟩
      · rintro j y σ H11 hj ⟨y6, y7, rfl, sB⟩
        obtain ⟨two, htwo, rfl⟩ := int_at hj
        have R2 : R two := oall two (List.mem_of_getElem? htwo)
        have bl2 : (biL two).length ≤ 1000 := Nat.le_trans (biTo_len two 6) (by decide)
        refine ⟨_, rfl, two, rfl, fun w12 H12 s12 n12 e12 => ?_⟩
        have e5C := s12 _ _ (sB _ _ e5A)
        -- join against the sum
        refine ⟨_, rfl, _, rfl, one, two, rfl, _, rfl, _, rfl, w5, w12, _, _, rfl, rfl, e5C, e12, ?_, fun t ht => ?_⟩
        · rw [List.length_map, List.length_map]
          have h1 := biTo_len one 6
          have h2 := biTo_len two 6
          refine small ?_
          show (biTo one 6).length + (biTo two 6).length ≤ 1000
          omega
        have s13 := same_upd (o := .lst ((biL one).map V.int ++ (biL two).map V.int)) ht
        refine ⟨t, biL one ++ biL two, rfl, SqL.of (by rw [upd_same, List.map_append]), fun H14 s14 => ?_⟩
        refine ⟨_, _, .int (J one two), rfl, .int _, ?_, dok_int 1 _, fun H15 s15 => ⟨_, rfl, ifF rfl ?_⟩⟩
        · rw [fact_sum Ri R2]
          exact .int _
        have s1F := s13.trans (s14.trans s15)
        have e5F := s1F _ _ e5C
        have e12F := s1F _ _ e12
        -- within against the list
        refine ⟨_, rfl, _, rfl, one, two, rfl, _, rfl, w5, rfl, ⟨_, SqL.of e5F⟩, fun D hD => ?_⟩
        refine lc_list (K := K) (a := w5) (xs := (biL one).map V.int) (fun i H' => Same H15 H' ∧ H' D = some (.lst ((outTo (biL one) (biL two) i).map V.int))) ⟨same_upd hD, upd_same⟩ (fun i H' _ z => z.1.seq (SqL.of e5F)) (fun i x H' hx hP => ?_) (fun H' hP => ?_)
        · obtain ⟨c, hc, rfl⟩ := int_at hx
          have st := outTo_step (ys := biL two) hc
          refine ⟨rfl, _, rfl, _, rfl, w12, _, rfl, .inl (hP.1.seq (SqL.of e12F)), rfl, flat_ints _, _, rfl, ?_⟩
          refine ite2 (fun q => ?_) (fun q => ?_)
          · have q' : (!inV (V.int c) ((biL two).map V.int)) = true := q
            rw [if_pos q'] at st
            refine ⟨_, rfl, _, hP.2, ?_, fun b u z => ?_, ?_⟩
            · rw [List.length_map]
              exact Nat.lt_of_le_of_lt (outTo_len _ _ _) (small1000 bl)
            · rw [upd_ne (ne_of_none z hD)]
              exact hP.1 b u z
            · rw [upd_same, st, List.map_append]
              rfl
          · have q' : ¬ (!inV (V.int c) ((biL two).map V.int)) = true := q
            rw [if_neg q', List.append_nil] at st
            exact ⟨hP.1, by rw [st]; exact hP.2⟩
        · rw [List.length_map] at hP
          refine ⟨Nat.zero_le _, fun u hu => ?_⟩
          have s17 := same_upd (o := .lst []) hu
          refine ⟨.list ((outTo (biL one) (biL two) (biL one).length).map PyData.int), .list ([].map PyData.int), dp_ints (SqL.of (s17 _ _ hP.2)), dp_ints (SqL.of upd_same), shaped_ints _, shaped_ints [], ?_⟩
          rw [fact_in Ri R2]
          refine ⟨_, _, .bool (W one two), rfl, .bl _, .bl _, trivial, fun H18 s18 => ⟨_, rfl, ifF rfl ?_⟩⟩
          exact ⟨_, _, rfl, sB.trans (s12.trans (s1F.trans (hP.1.trans (s17.trans s18))))⟩
      · rintro σ H11 ⟨y6, y7, rfl, sB⟩
        exact ⟨_, _, _, _, _, rfl, s3A.trans sB⟩
    · rintro σ H4 ⟨x3, x4, x5, x6, x7, rfl, s4⟩
      exact k H4
theorem ok_law_all (D_law : DefAt K mg "law" s_law ["script"]) (T : Txt K mg) (D_join : DefAt K mg "join" s_join ["one", "two"]) (D_within : DefAt K mg "within" s_within ["one", "two"]) (D_ch : DefAt K mg "channels_of" s_channels_of ["mark"])
    (D_state : DefAt K mg "_law_state" s_l_state ["script"]) (D_pick : DefAt K mg "_law_pick" s_l_pick ["state", "many"]) (D_same : DefAt K mg "_law_same" s_l_same ["actual", "due"]) (D_bits : DefAt K mg "_law_bits" s_l_bits ["mark"]) (D_sum : DefAt K mg "_law_sum" s_l_sum ["channels"]) : FnOk P w K mg base CX0 3 D_law.f D_law.fd ["script"] (spLaw K) := by
  have C0 : Callee P w K mg base 0 "_law_same" ["actual", "due"] (spSame K 0) := D_same.callee (fn_false fun vs H Q E h => by obtain ⟨x, y, d, _, _, _, h, _⟩ := h; exact h)
  have C1 : Callee P w K mg base 1 "_law_same" ["actual", "due"] (spSame K 1) := D_same.callee (ok_same D_same.F T C0)
  have C2 : Callee P w K mg base 2 "_law_same" ["actual", "due"] (spSame K 2) := D_same.callee (ok_same D_same.F T C1)
  exact ok_law D_law.F T (D_join.callee (ok_join D_join.F)) (D_within.callee (ok_within D_within.F)) (D_ch.callee (ok_ch D_ch.F T)) (D_state.callee (ok_state D_state.F T)) (D_pick.callee (ok_pick D_pick.F T)) C2 (D_bits.callee (ok_bits D_bits.F T)) (D_sum.callee (ok_sum D_sum.F T))
end
theorem all_mk {l : PySem.W.OpenLaw} {w : World} {K : PySem.W.Frag} {h : Heap} {mg : Str → Option Value} {fa f0 f1 f2 f3 f4 f5 f6 f7 f8 : Addr} (X : K.In h) (G : h.Ns mainGlobals mg) (hfa : mg "law" = some (.ref fa))
    {od0 an0 od1 an1 od2 an2 od3 an3 od4 an4 od5 an5 od6 an6 od7 an7 od8 an8 : Option Addr} {sl0 sl1 sl2 sl3 sl4 sl5 sl6 sl7 sl8 : Array (Option Value)} {oc0 kV0 dc0 pm0 cd0 ct0 oc1 kV1 dc1 pm1 cd1 ct1 oc2 kV2 dc2 pm2 cd2 ct2 oc3 kV3 dc3 pm3 cd3 ct3 oc4 kV4 dc4 pm4 cd4 ct4 oc5 kV5 dc5 pm5 cd5 ct5 oc6 kV6 dc6 pm6 cd6 ct6 oc7 kV7 dc7 pm7 cd7 ct7 oc8 kV8 dc8 pm8 cd8 ct8 : Value}
    (a0 : PySem.W.nsIn K mainGlobals "join" = some (some (.ref f0))) (l0 : K.lookup f0 = some ⟨oc0, od0, .func (PySem.W.fnOf "join" "join" (defArgs s_join) (defBody s_join) (defScope s_join) .none kV0 dc0 pm0 an0 cd0 ct0), sl0⟩) (c0 : PySem.W.codeIn K cd0 "join" = true) (k0 : PySem.W.keepIn K (.ref f0) = true)
    (a1 : PySem.W.nsIn K mainGlobals "within" = some (some (.ref f1))) (l1 : K.lookup f1 = some ⟨oc1, od1, .func (PySem.W.fnOf "within" "within" (defArgs s_within) (defBody s_within) (defScope s_within) .none kV1 dc1 pm1 an1 cd1 ct1), sl1⟩) (c1 : PySem.W.codeIn K cd1 "within" = true) (k1 : PySem.W.keepIn K (.ref f1) = true)
    (a2 : PySem.W.nsIn K mainGlobals "channels_of" = some (some (.ref f2))) (l2 : K.lookup f2 = some ⟨oc2, od2, .func (PySem.W.fnOf "channels_of" "channels_of" (defArgs s_channels_of) (defBody s_channels_of) (defScope s_channels_of) .none kV2 dc2 pm2 an2 cd2 ct2), sl2⟩) (c2 : PySem.W.codeIn K cd2 "channels_of" = true) (k2 : PySem.W.keepIn K (.ref f2) = true)
    (a3 : PySem.W.nsIn K mainGlobals "_law_state" = some (some (.ref f3))) (l3 : K.lookup f3 = some ⟨oc3, od3, .func (PySem.W.fnOf "_law_state" "_law_state" (defArgs s_l_state) (defBody s_l_state) (defScope s_l_state) .none kV3 dc3 pm3 an3 cd3 ct3), sl3⟩) (c3 : PySem.W.codeIn K cd3 "_law_state" = true) (k3 : PySem.W.keepIn K (.ref f3) = true)
    (a4 : PySem.W.nsIn K mainGlobals "_law_pick" = some (some (.ref f4))) (l4 : K.lookup f4 = some ⟨oc4, od4, .func (PySem.W.fnOf "_law_pick" "_law_pick" (defArgs s_l_pick) (defBody s_l_pick) (defScope s_l_pick) .none kV4 dc4 pm4 an4 cd4 ct4), sl4⟩) (c4 : PySem.W.codeIn K cd4 "_law_pick" = true) (k4 : PySem.W.keepIn K (.ref f4) = true)
    (a5 : PySem.W.nsIn K mainGlobals "_law_same" = some (some (.ref f5))) (l5 : K.lookup f5 = some ⟨oc5, od5, .func (PySem.W.fnOf "_law_same" "_law_same" (defArgs s_l_same) (defBody s_l_same) (defScope s_l_same) .none kV5 dc5 pm5 an5 cd5 ct5), sl5⟩) (c5 : PySem.W.codeIn K cd5 "_law_same" = true) (k5 : PySem.W.keepIn K (.ref f5) = true)
    (a6 : PySem.W.nsIn K mainGlobals "_law_bits" = some (some (.ref f6))) (l6 : K.lookup f6 = some ⟨oc6, od6, .func (PySem.W.fnOf "_law_bits" "_law_bits" (defArgs s_l_bits) (defBody s_l_bits) (defScope s_l_bits) .none kV6 dc6 pm6 an6 cd6 ct6), sl6⟩) (c6 : PySem.W.codeIn K cd6 "_law_bits" = true) (k6 : PySem.W.keepIn K (.ref f6) = true)
    (a7 : PySem.W.nsIn K mainGlobals "_law_sum" = some (some (.ref f7))) (l7 : K.lookup f7 = some ⟨oc7, od7, .func (PySem.W.fnOf "_law_sum" "_law_sum" (defArgs s_l_sum) (defBody s_l_sum) (defScope s_l_sum) .none kV7 dc7 pm7 an7 cd7 ct7), sl7⟩) (c7 : PySem.W.codeIn K cd7 "_law_sum" = true) (k7 : PySem.W.keepIn K (.ref f7) = true)
    (a8 : PySem.W.nsIn K mainGlobals "law" = some (some (.ref f8))) (l8 : K.lookup f8 = some ⟨oc8, od8, .func (PySem.W.fnOf "law" "law" (defArgs s_law) (defBody s_law) (defScope s_law) .none kV8 dc8 pm8 an8 cd8 ct8), sl8⟩) (c8 : PySem.W.codeIn K cd8 "law" = true) (k8 : PySem.W.keepIn K (.ref f8) = true)
    (z_range : PySem.W.nsIn K mainGlobals "range" = some none)
    (z_list : PySem.W.nsIn K mainGlobals "list" = some none)
    (z_int : PySem.W.nsIn K mainGlobals "int" = some none)
    (z_isinstance : PySem.W.nsIn K mainGlobals "isinstance" = some none)
    (z_bool : PySem.W.nsIn K mainGlobals "bool" = some none)
    (z_str : PySem.W.nsIn K mainGlobals "str" = some none)
    (z_tuple : PySem.W.nsIn K mainGlobals "tuple" = some none)
    (z_len : PySem.W.nsIn K mainGlobals "len" = some none)
    (z_sum : PySem.W.nsIn K mainGlobals "sum" = some none)
    (z_min : PySem.W.nsIn K mainGlobals "min" = some none)
    : ∃ fd : FuncData, (∀ (s : Shared) (v : Value), BindsTo s fd ⟨[v], []⟩ [("script", v)]) ∧ ∀ base : Heap, K.In base → base.Ns mainGlobals mg → FnOk l.prog w K mg base CX0 3 fa fd ["script"] (spLaw K) := by
  have e := hfa.symm.trans (PySem.W.mg_of X G a8)
  cases e
  have T : Txt K mg := ⟨PySem.W.mg_none_of X G z_range, PySem.W.mg_none_of X G z_list, PySem.W.mg_none_of X G z_int, PySem.W.mg_none_of X G z_isinstance, PySem.W.mg_none_of X G z_bool, PySem.W.mg_none_of X G z_str, PySem.W.mg_none_of X G z_tuple, PySem.W.mg_none_of X G z_len, PySem.W.mg_none_of X G z_sum, PySem.W.mg_none_of X G z_min⟩
  have F0 := fun_mk (st := s_join) l0 c0 k0
  have b0 := F0.binds (ps := ["one", "two"]) fun _ _ _ _ _ _ us hl => match us, hl with | [_, _], _ => rfl
  let D0 : DefAt K mg "join" s_join ["one", "two"] := ⟨f0, _, F0, PySem.W.mg_of X G a0, b0⟩
  have F1 := fun_mk (st := s_within) l1 c1 k1
  have b1 := F1.binds (ps := ["one", "two"]) fun _ _ _ _ _ _ us hl => match us, hl with | [_, _], _ => rfl
  let D1 : DefAt K mg "within" s_within ["one", "two"] := ⟨f1, _, F1, PySem.W.mg_of X G a1, b1⟩
  have F2 := fun_mk (st := s_channels_of) l2 c2 k2
  have b2 := F2.binds (ps := ["mark"]) fun _ _ _ _ _ _ us hl => match us, hl with | [_], _ => rfl
  let D2 : DefAt K mg "channels_of" s_channels_of ["mark"] := ⟨f2, _, F2, PySem.W.mg_of X G a2, b2⟩
  have F3 := fun_mk (st := s_l_state) l3 c3 k3
  have b3 := F3.binds (ps := ["script"]) fun _ _ _ _ _ _ us hl => match us, hl with | [_], _ => rfl
  let D3 : DefAt K mg "_law_state" s_l_state ["script"] := ⟨f3, _, F3, PySem.W.mg_of X G a3, b3⟩
  have F4 := fun_mk (st := s_l_pick) l4 c4 k4
  have b4 := F4.binds (ps := ["state", "many"]) fun _ _ _ _ _ _ us hl => match us, hl with | [_, _], _ => rfl
  let D4 : DefAt K mg "_law_pick" s_l_pick ["state", "many"] := ⟨f4, _, F4, PySem.W.mg_of X G a4, b4⟩
  have F5 := fun_mk (st := s_l_same) l5 c5 k5
  have b5 := F5.binds (ps := ["actual", "due"]) fun _ _ _ _ _ _ us hl => match us, hl with | [_, _], _ => rfl
  let D5 : DefAt K mg "_law_same" s_l_same ["actual", "due"] := ⟨f5, _, F5, PySem.W.mg_of X G a5, b5⟩
  have F6 := fun_mk (st := s_l_bits) l6 c6 k6
  have b6 := F6.binds (ps := ["mark"]) fun _ _ _ _ _ _ us hl => match us, hl with | [_], _ => rfl
  let D6 : DefAt K mg "_law_bits" s_l_bits ["mark"] := ⟨f6, _, F6, PySem.W.mg_of X G a6, b6⟩
  have F7 := fun_mk (st := s_l_sum) l7 c7 k7
  have b7 := F7.binds (ps := ["channels"]) fun _ _ _ _ _ _ us hl => match us, hl with | [_], _ => rfl
  let D7 : DefAt K mg "_law_sum" s_l_sum ["channels"] := ⟨f7, _, F7, PySem.W.mg_of X G a7, b7⟩
  have F8 := fun_mk (st := s_law) l8 c8 k8
  have b8 := F8.binds (ps := ["script"]) fun _ _ _ _ _ _ us hl => match us, hl with | [_], _ => rfl
  let D8 : DefAt K mg "law" s_law ["script"] := ⟨fa, _, F8, PySem.W.mg_of X G a8, b8⟩
  exact ⟨PySem.W.fnOf "law" "law" (defArgs s_law) (defBody s_law) (defScope s_law) .none kV8 dc8 pm8 an8 cd8 ct8, fun s v => .of_eq rfl, fun base _ _ => ok_law_all D8 T D0 D1 D2 D3 D4 D5 D6 D7⟩
end My
open PySem PySem.W PyProof.Rows
set_option maxHeartbeats 0 in
theorem PySem.Challenge.cw_nobodyspeaks_k01_marks_are_sets_holds : PySem.Challenge.rw_nobodyspeaks_k01_marks_are_sets.Holds := by
  w_on; o_law; k_head; (case hw => w_witness2)
  k_fill
  refine L2.walk_of (l := PySem.Challenge.rw_nobodyspeaks_k01_marks_are_sets) (n := 63) (k := 3) (x := "script") (CX := fun _ => L2.CX0) (sp := fun w => My.spLaw _) rfl (by decide) rfl ⟨rfl, by decide, by decide⟩ (fun w h Y => PySem.W.kIn_of Y) ?F (fun _ _ a ns hl _ hS => ⟨a, ns, rfl, hS, hl, fun _ => rfl⟩) (fun _ _ _ _ _ h => h)
  case F =>
    intro w mg fa h KX G hmg
    refine' My.all_mk KX G hmg ?a0 ?l0 ?c0 ?k0 ?a1 ?l1 ?c1 ?k1 ?a2 ?l2 ?c2 ?k2 ?a3 ?l3 ?c3 ?k3 ?a4 ?l4 ?c4 ?k4 ?a5 ?l5 ?c5 ?k5 ?a6 ?l6 ?c6 ?k6 ?a7 ?l7 ?c7 ?k7 ?a8 ?l8 ?c8 ?k8 ?z_range ?z_list ?z_int ?z_isinstance ?z_bool ?z_str ?z_tuple ?z_len ?z_sum ?z_min
    (case a0 => k_is)
    (case l0 => k_is)
    (case c0 => k_is)
    (case k0 => k_is)
    (case a1 => k_is)
    (case l1 => k_is)
    (case c1 => k_is)
    (case k1 => k_is)
    (case a2 => k_is)
    (case l2 => k_is)
    (case c2 => k_is)
    (case k2 => k_is)
    (case a3 => k_is)
    (case l3 => k_is)
    (case c3 => k_is)
    (case k3 => k_is)
    (case a4 => k_is)
    (case l4 => k_is)
    (case c4 => k_is)
    (case k4 => k_is)
    (case a5 => k_is)
    (case l5 => k_is)
    (case c5 => k_is)
    (case k5 => k_is)
    (case a6 => k_is)
    (case l6 => k_is)
    (case c6 => k_is)
    (case k6 => k_is)
    (case a7 => k_is)
    (case l7 => k_is)
    (case c7 => k_is)
    (case k7 => k_is)
    (case a8 => k_is)
    (case l8 => k_is)
    (case c8 => k_is)
    (case k8 => k_is)
    (case z_range => k_is)
    (case z_list => k_is)
    (case z_int => k_is)
    (case z_isinstance => k_is)
    (case z_bool => k_is)
    (case z_str => k_is)
    (case z_tuple => k_is)
    (case z_len => k_is)
    (case z_sum => k_is)
    (case z_min => k_is)

