import PyProof.Rows.All
import Wide.All
import OpenK.AllK
import Wide.FinOn
import HandS.ForMost
import HandS.Codes
import HandS.IsInst
import HandS.WideBits
import HandS.Walk
import HandS.TupLe
import PySem.Challenge.RW_nobodyspeaks_k03_names
set_option Elab.async false
set_option linter.all false
set_option maxRecDepth 100000
set_option maxHeartbeats 4000000
namespace My
open PySem PySem.Spec PyProof.Rows L2
def topS (i : Nat) : Stmt := PySem.Challenge.pw_nobodyspeaks_k03_names.main.body.getD i (.Pass ⟨0, 0, 0, 0⟩)
/-! ### heaps, defs -/
theorem same_upd {H : Hp} {p : Addr} {o : HO} (h : H p = none) : Same H (upd H p o) := fun b x e => by
  rw [upd_ne (ne_of_none e h)]
  exact e
/-- all that was tracked is as it was, but what stands at p and at q -/
def But (p q : Addr) (H H' : Hp) : Prop := ∀ b o, b ≠ p → b ≠ q → H b = some o → H' b = some o
theorem But.trans {p q : Addr} {H H1 H2 : Hp} (a : But p q H H1) (b : But p q H1 H2) : But p q H H2 := fun c o h1 h2 h => b c o h1 h2 (a c o h1 h2 h)
theorem But.of {p q : Addr} {H H1 : Hp} (a : Same H H1) : But p q H H1 := fun c o _ _ h => a c o h
theorem But.refl {p q : Addr} (H : Hp) : But p q H H := fun c o _ _ h => h
theorem small {n : Nat} (h : n ≤ 1000) : n ≤ sizeLine := Nat.le_of_lt (small1000 h)

structure DefAt (K : PySem.W.Frag) (mg : Str → Option Value) (x : Str) (st : Stmt) (ps : List Str) where
  f : Addr
  fd : FuncData
  F : Fun K x x st f fd
  m : mg x = some (.ref f)
  b : Binds K fd ps []
structure Callee (P : Program) (w : World) (K : PySem.W.Frag) (mg : Str → Option Value) (base : Heap) (k : Nat) (x : Str) (ps : List Str) (sp : Sp) where
  f : Addr
  fd : FuncData
  ok : FnOk P w K mg base CX0 k f fd ps sp
  mg : mg x = some (.ref f)
  kp : PySem.W.keepIn K (.ref f) = true
  b : Binds K fd ps []
def DefAt.callee {P : Program} {w : World} {K : PySem.W.Frag} {mg : Str → Option Value} {base : Heap} {k : Nat} {x : Str} {st : Stmt} {ps : List Str} {sp : Sp} (D : DefAt K mg x st ps) (ok : FnOk P w K mg base CX0 k D.f D.fd ps sp) : Callee P w K mg base k x ps sp :=
  ⟨D.f, D.fd, ok, D.m, D.F.kp, D.b⟩
theorem fn_false {P : Program} {w : World} {K : PySem.W.Frag} {mg : Str → Option Value} {base : Heap} {k : Nat} {f : Addr} {fd : FuncData} {ps : List Str} {sp : Sp} (no : ∀ vs H Q E, ¬ sp vs H Q E) : FnOk P w K mg base CX0 k f fd ps sp :=
  ⟨fun vs H Q E h => absurd h (no vs H Q E), fun A outer s H args us vs Q E _ _ _ _ h => absurd h (no vs H Q E)⟩

/-! ### a word between an expression and what follows -/
section
variable {X : Cx} {e : Expr}
def tECut (t : TE) : TE := fun σ H Q => ∃ Mid : VK, t σ H Mid ∧ ∀ v H', Mid v H' → Q v H'
theorem pe_cut {t : TE} (h : PE X e t) : PE X e (tECut t) := by
  refine ⟨fun pins s σ H Q I q => ?_⟩
  obtain ⟨Mid, q1, q2⟩ := q
  exact thn (h.run pins s σ H Mid I q1) fun u s' ⟨v, H', I', r, z⟩ => ⟨v, H', I', r, q2 v H' z⟩
def tTCut (t : TT) : TT := fun σ H Q => ∃ Mid : Bool → Hp → Prop, t σ H Mid ∧ ∀ b H', Mid b H' → Q b H'
theorem pt_cut {t : TT} (h : PT X e t) : PT X e (tTCut t) := by
  refine ⟨fun pins s σ H Q I q => ?_⟩
  obtain ⟨Mid, q1, q2⟩ := q
  exact thn (h.run pins s σ H Mid I q1) fun b s' ⟨H', I', z⟩ => ⟨H', I', q2 b H' z⟩
end
/-! ### rules told of a K (within comprehensions) -/
section
variable {X : Cx} {K : PySem.W.Frag}
def tTruth (K : PySem.W.Frag) (ta : TE) : TT := fun σ H Q => ta σ H fun x H' => ∃ k, TruV K x H' k ∧ Q k H'
theorem pt_truthK {a : Expr} {ta : TE} (K : PySem.W.Frag) (h : X.K = K) (ha : PE X a ta) (he : ∀ whole, isTrue a X.env whole = (do let v ← whole; standAt a.pos; holding [v] (truthy v))) : PT X a (tTruth K ta) := by
  subst h
  exact pt_truth ha he
theorem op_in_seqK (K : PySem.W.Frag) (h : X.K = K) : OpR X (compareOp .In) (rIn K false) := by
  subst h
  exact op_in_seq
theorem op_notIn_seqK (K : PySem.W.Frag) (h : X.K = K) : OpR X (compareOp .NotIn) (rIn K true) := by
  subst h
  exact op_notIn_seq
theorem ix_listK (K : PySem.W.Frag) (h : X.K = K) : IxR X (rIxL K) := by
  subst h
  exact ix_list
theorem ix_tupK (K : PySem.W.Frag) (h : X.K = K) : IxR X (rIxT K) := by
  subst h
  exact ix_tup
theorem op_eqDK (K : PySem.W.Frag) (h : X.K = K) (hu : X.A.units + 64 < cLine) : OpR X (compareOp .Eq) (rEqD K) := by
  subst h
  exact op_eqD hu
theorem op_neDK (K : PySem.W.Frag) (h : X.K = K) (hu : X.A.units + 64 < cLine) : OpR X (compareOp .NotEq) (rNeD K) := by
  subst h
  exact op_neD hu
end
/-! ### the law's drawing -/
/-- a drawing state stands at p: its cells at q -/
def StOk (H : Hp) (p q : Addr) : Prop := ∃ (cs : List Int) (a b : Int), H p = some (.lst [.ref q, .int a, .int b]) ∧ H q = some (.lst (cs.map V.int)) ∧ 0 ≤ b ∧ b < 2147483647
theorem StOk.ne {H : Hp} {p q : Addr} (h : StOk H p q) : p ≠ q := by
  obtain ⟨cs, a, b, h1, h2, _⟩ := h
  intro e
  rw [e, h2] at h1
  cases cs with
  | nil => cases h1
  | cons c r => injection h1 with h1; injection h1 with h1; injection h1 with h1 _; cases h1
theorem StOk.keep {H H' : Hp} {p q : Addr} (h : StOk H p q) (e : Same H H') : StOk H' p q := by
  obtain ⟨cs, a, b, h1, h2, h3⟩ := h
  exact ⟨cs, a, b, e _ _ h1, e _ _ h2, h3⟩
theorem StOk.free {H : Hp} {p q c : Addr} (h : StOk H p q) (hc : H c = none) : c ≠ p ∧ c ≠ q := by
  obtain ⟨cs, a, b, h1, h2, _⟩ := h
  exact ⟨(ne_of_none h1 hc).symm, (ne_of_none h2 hc).symm⟩
theorem canLay_ints (ns : List Int) : PyData.canLayAll0 (ns.map PyData.int) = true := by
  induction ns with
  | nil => rfl
  | cons n r ih =>
    show (PyData.canLay0 (.int n) && PyData.canLayAll0 (r.map PyData.int)) = true
    rw [ih] <;> rfl
theorem depth_ints (ns : List Int) : PyData.depthAll (ns.map PyData.int) = 0 := by
  induction ns with
  | nil => rfl
  | cons n r ih =>
    show max (PyData.depth (.int n)) (PyData.depthAll (r.map PyData.int)) = 0
    rw [ih] <;> rfl
theorem shaped_ints (ns : List Int) : SeqAt.shaped (.list (ns.map PyData.int)) = true := by
  unfold SeqAt.shaped
  have h1 : PyData.canLay0 (.list (ns.map PyData.int)) = true := canLay_ints ns
  have h2 : PyData.depth (.list (ns.map PyData.int)) = 1 := by
    show PyData.depthAll (ns.map PyData.int) + 1 = 1
    rw [depth_ints]
  rw [h1, h2] <;> rfl
theorem dp_ints {K : PySem.W.Frag} {H : Hp} {a : Addr} {ns : List Int} (h : SqL K H a (ns.map V.int)) : Dp K H (.ref a) (.list (ns.map PyData.int)) := by
  refine .lst h ?_
  clear h
  induction ns with
  | nil => exact .nil
  | cons n r ih => exact .cons (.int n) ih
def spState (K : PySem.W.Frag) : Sp := fun vs H Q _ => ∃ (a : Addr) (ns : List Int), vs = [.ref a] ∧ SqL K H a (ns.map V.int) ∧ ∀ p q H', H p = none → H q = none → Same H H' → StOk H' p q → Q (.ref p) H'
def spPick : Sp := fun vs H Q _ => ∃ (p q : Addr) (m : Int), vs = [.ref p, .int m] ∧ StOk H p q ∧ 1 ≤ m ∧ m < 1000000 ∧ ∀ (r : Int) H', 0 ≤ r → r < m → StOk H' p q → But p q H H' → Q (.int r) H'
/-! ### names: the mathematics -/
abbrev LET : Str := "abcdefghijklmnopqrstuvwxyz"
abbrev FIG : Str := "0123456789"
abbrev SML : Str := "abcdefghijklmnopqrstuvwxyz0123456789"
def keptL : List Str := List.map Str.ofString ["system", "domain", "channel", "person", "cell", "tool", "function", "task", "gives", "body", "begin", "end", "yes", "policy", "start", "text", "any", "allow", "deny", "anyone", "nobody", "from", "always", "with", "else", "edit", "cut", "read", "choose", "write", "take", "trust", "set", "copy", "keep", "recall", "if", "call", "post", "ask", "do", "return"]
abbrev keptV : List V := keptL.map V.str
structure Txt (K : PySem.W.Frag) (mg : Str → Option Value) : Prop where
  z_len : mg "len" = none
  z_all : mg "all" = none
  z_list : mg "list" = none
  z_int : mg "int" = none
  z_isinstance : mg "isinstance" = none
  z_bool : mg "bool" = none
  z_str : mg "str" = none
  z_tuple : mg "tuple" = none
  z_range : mg "range" = none
  z_min : mg "min" = none
  g_letters : ∃ u, mg "LETTERS" = some u ∧ RelV (.str "abcdefghijklmnopqrstuvwxyz") u
  g_figures : ∃ u, mg "FIGURES" = some u ∧ RelV (.str "0123456789") u
  g_most : ∃ u, mg "MOST_SIGNS" = some u ∧ RelV (.int 12) u
  g_kept : ∃ kw, mg "KEPT_WORDS" = some (.ref kw) ∧ ∀ H, SqT K H kw keptV

section
variable {P : Program} {w : World} {K : PySem.W.Frag} {mg : Str → Option Value} {base : Heap} {f : Addr} {fd : FuncData}
abbrev s_l_state : Stmt := topS 7
theorem sc_l_state : FnScope ["script"] ["script"] (defScope s_l_state) := ⟨rfl, rfl, rfl, by decide +kernel, rfl, by decide +kernel, by decide +kernel⟩

theorem ok_state (F : Fun K "_law_state" "_law_state" s_l_state f fd) (T : Txt K mg) : FnOk P w K mg base CX0 1 f fd ["script"] (spState K) := by
  refine F.ok sc_l_state (fun vs H Q E h => ?_) (fun cdv A outer s H vs Q E hr h => ?_)
  · obtain ⟨a, ns, rfl, _⟩ := h
    rfl
  obtain ⟨a, ns, rfl, hS, k⟩ := h
  refine ⟨_, (pss_one (ps_ret (pe_lst (pa_cons (pe_callTy call_list_of (by rfl) T.z_list (by decide +kernel) (pa_cons (pv 0) pa_nil)) (pa_cons pe_int (pa_cons pe_int pa_nil)))))), ?_⟩
  refine ⟨_, rfl, a, ns.map V.int, rfl, .inl hS, fun q hq => ⟨by show 3 ≤ sizeLine; decide, fun p hp => ?_⟩⟩
  have hp0 : H p = none := (same_upd hq).free hp
  have hpq : q ≠ p := ne_of_none upd_same hp
  exact k p q _ hp0 hq ((same_upd hq).trans (same_upd hp)) ⟨ns, 0, 7, upd_same, by rw [upd_ne hpq, upd_same], by decide, by decide⟩
abbrev s_l_pick : Stmt := topS 8
theorem sc_l_pick : FnScope ["state", "many", "cell", "picked", "mixed"] ["state", "many"] (defScope s_l_pick) := ⟨rfl, rfl, rfl, by decide +kernel, rfl, by decide +kernel, by decide +kernel⟩

theorem seq0 {n : Nat} (h : 0 < n) : seqIndex? 0 n = some 0 := by
  simp only [seqIndex?]
  simp
  omega
theorem fmod_range {x m : Int} (h : 1 ≤ m) : 0 ≤ x.fmod m ∧ x.fmod m < m := by
  rw [Int.fmod_eq_emod_of_nonneg _ (by omega)]
  exact ⟨Int.emod_nonneg _ (by omega), Int.emod_lt_of_pos _ (by omega)⟩
theorem ok_pick (F : Fun K "_law_pick" "_law_pick" s_l_pick f fd) (T : Txt K mg) : FnOk P w K mg base CX0 1 f fd ["state", "many"] spPick := by
  refine F.ok sc_l_pick (fun vs H Q E h => ?_) (fun cdv A outer s H vs Q E hr h => ?_)
  · obtain ⟨p, q, m, rfl, _⟩ := h
    rfl
  obtain ⟨p, q, m, rfl, hSt, hm1, hm2, k⟩ := h
  refine ⟨_, (C8.pss_cut (ps_if (PW.pt (pw_and (pt_cmpR op_le (pe_ix ix_list (pv 0) pe_int (fun _ _ => rfl)) pe_int (nomark _)) (pw_and1 (pt_cmpR (op_neD hr.units) (pe_ix ix_list (pv 0) pe_int (fun _ _ => rfl)) (pe_lst pa_nil) (nomark _)))))
      (pss_cons (ps_set (i := 2) sc_l_pick.nd rfl (Or.inl rfl) (pe_bm PySem.F.plainAttrs_list PySem.F.slot_list_pop PySem.F.type_list_pop mt_popAt (pe_ix ix_list (pv 0) pe_int (fun _ _ => rfl)) (pa_cons pe_int pa_nil)))
      (pss_one (ps_if (pt_cmpR op_ge (pv 2) (pe_op op_pow pe_int pe_int) (nomark _))
        (pss_one (ps_asg (pe_op op_sub (pv 2) (pe_op op_pow pe_int pe_int)) (pg_sub (pv 0) pe_int set_list)))
        (pss_one (ps_asg (pe_op op_modN (pe_callTy call_int1 (by rfl) T.z_int (by decide +kernel) (pa_cons (pe_op op_add (pe_op op_mul (pe_ix ix_list (pv 0) pe_int (fun _ _ => rfl)) pe_int) (pv 2)) pa_nil)) pe_int) (pg_sub (pv 0) pe_int set_list))))))
      pss_nil)
    (pss_cons (ps_if (pt_cmpR op_gt (pe_ix ix_list (pv 0) pe_int (fun _ _ => rfl)) pe_int (nomark _))
      (pss_cons (ps_set (i := 3) sc_l_pick.nd rfl (Or.inl rfl) (pe_op op_modN (pe_callTy call_int1 (by rfl) T.z_int (by decide +kernel) (pa_cons (pe_ix ix_list (pv 0) pe_int (fun _ _ => rfl)) pa_nil)) (pv 1)))
      (pss_cons (ps_asg (pe_op op_fdivN (pe_ix ix_list (pv 0) pe_int (fun _ _ => rfl)) (pv 1)) (pg_sub (pv 0) pe_int set_list))
      (pss_one (ps_ret (pv 3)))))
      pss_nil)
    (pss_cons (ps_asg (pe_op op_modN (pe_callTy call_int1 (by rfl) T.z_int (by decide +kernel) (pa_cons (pe_op op_add (pe_op op_mul (pe_ix ix_list (pv 0) pe_int (fun _ _ => rfl)) pe_int) pe_int) pa_nil)) pe_int) (pg_sub (pv 0) pe_int set_list))
    (pss_cons (ps_set (i := 4) sc_l_pick.nd rfl (Or.inl rfl) (pe_op op_modN (pe_callTy call_int1 (by rfl) T.z_int (by decide +kernel) (pa_cons (pe_op op_add (pe_op op_mul (pe_ix ix_list (pv 0) pe_int (fun _ _ => rfl)) pe_int) (pe_op op_fdivN (pe_ix ix_list (pv 0) pe_int (fun _ _ => rfl)) pe_int)) pa_nil)) pe_int))
    (pss_one (ps_ret (pe_op op_modN (pe_callTy call_int1 (by rfl) T.z_int (by decide +kernel) (pa_cons (pe_op op_fdivN (pv 4) pe_int) pa_nil)) (pv 1)))))))), ?_⟩
  have hpq := hSt.ne
  obtain ⟨cs, a, b, hp, hq, hb0, hb1⟩ := id hSt
  refine ⟨fun σ' H' => ∃ c, σ' = [some (.ref p), some (.int m), c, none, none] ∧ StOk H' p q ∧ But p q H H', ?_, ?_⟩
  · -- if state[1] <= 1 and state[0] != []
    refine ⟨_, rfl, p, _, _, .int a, rfl, rfl, SqL.of hp, rfl, _, _, rfl, rfl, _, rfl, ?_⟩
    refine ite2 (fun c1 => ?_) (fun c1 => iteF ⟨none, rfl, hSt, But.refl H⟩)
    refine ⟨_, rfl, p, _, _, .ref q, rfl, rfl, SqL.of hp, rfl, Nat.zero_le _, fun e he => ?_⟩
    have s1 : Same H (upd H e (.lst [])) := same_upd he
    refine ⟨.list (cs.map PyData.int), .list ([].map PyData.int), dp_ints (SqL.of (s1 _ _ hq)), dp_ints (SqL.of upd_same), shaped_ints cs, shaped_ints [], _, rfl, ?_⟩
    cases cs with
    | nil => exact ⟨none, rfl, hSt.keep s1, But.of s1⟩
    | cons c r =>
      have hp1 := s1 _ _ hp
      have hq1 := s1 _ _ hq
      -- cell = state[0].pop(0)
      refine ⟨_, rfl, p, _, _, .ref q, rfl, rfl, SqL.of hp1, rfl, .inl ⟨rfl, _, SqL.of hq1⟩, q, _, 0, 0, .int c, rfl, rfl, hq1, by decide, by decide, seq0 (by rw [List.length_map, List.length_cons]; omega), rfl, ?_⟩
      have hp2 : (upd (upd H e (.lst [])) q (.lst ((List.map V.int (c :: r)).eraseIdx 0))) p = some (.lst [.ref q, .int a, .int b]) := by rw [upd_ne hpq]; exact hp1
      have hq2 : (upd (upd H e (.lst [])) q (.lst ((List.map V.int (c :: r)).eraseIdx 0))) q = some (.lst (r.map V.int)) := by rw [upd_same] <;> rfl
      have b2 : But p q H (upd (upd H e (.lst [])) q (.lst ((List.map V.int (c :: r)).eraseIdx 0))) := fun x o _ n2 z => by rw [upd_ne n2]; exact s1 _ _ z
      -- if cell >= 10 ** 18
      refine ⟨_, rfl, 10, 18, rfl, rfl, ⟨by decide, by decide, by decide⟩, _, _, rfl, rfl, _, rfl, ?_⟩
      refine ite2 (fun c2 => ?_) (fun c2 => ?_)
      · refine ⟨_, rfl, 10, 18, rfl, rfl, ⟨by decide, by decide, by decide⟩, _, _, rfl, rfl, _, rfl, p, _, 1, 1, rfl, rfl, hp2, rfl, ?_⟩
        refine ⟨_, rfl, ⟨r, _, b, upd_same, by rw [upd_ne hpq.symm]; exact hq2, hb0, hb1⟩, fun x o n1 n2 z => by rw [upd_ne n1]; exact b2 x o n1 n2 z⟩
      · refine ⟨_, rfl, p, _, _, .int b, rfl, rfl, SqL.of hp2, rfl, b, 16807, rfl, rfl, .inl ⟨by omega, by omega⟩, _, rfl, _, _, rfl, rfl, .inl ⟨_, rfl, _, _, rfl, rfl, (by show (2147483647 : Int) ≠ 0; decide), ?_⟩⟩
        refine ⟨_, rfl, p, _, 2, 2, rfl, rfl, hp2, rfl, ?_⟩
        have rg := fmod_range (x := b * 16807 + c) (m := 2147483647) (by decide)
        refine ⟨_, rfl, ⟨r, a, _, upd_same, by rw [upd_ne hpq.symm]; exact hq2, rg.1, rg.2⟩, fun x o n1 n2 z => by rw [upd_ne n1]; exact b2 x o n1 n2 z⟩
  · rintro σ' H' ⟨c, rfl, hSt', hB⟩
    clear hp hq hb0 hb1 hSt
    obtain ⟨cs, a, b, hp, hq, hb0, hb1⟩ := id hSt'
    -- if state[1] > 1
    refine ⟨_, rfl, p, _, _, .int a, rfl, rfl, SqL.of hp, rfl, _, _, rfl, rfl, _, rfl, ?_⟩
    refine ite2 (fun c1 => ?_) (fun c1 => ?_)
    · refine ⟨_, rfl, p, _, _, .int a, rfl, rfl, SqL.of hp, rfl, .inl ⟨_, rfl, _, rfl, _, _, rfl, rfl, by omega, ?_⟩⟩
      refine ⟨_, rfl, p, _, _, .int a, rfl, rfl, SqL.of hp, rfl, _, rfl, _, _, rfl, rfl, ⟨by omega, by omega⟩, _, rfl, p, _, 1, 1, rfl, rfl, hp, rfl, ?_⟩
      have rg := fmod_range (x := a) (m := m) hm1
      refine ⟨_, rfl, k _ _ rg.1 rg.2 ⟨cs, _, b, upd_same, by rw [upd_ne hpq.symm]; exact hq, hb0, hb1⟩ fun x o n1 n2 z => by rw [upd_ne n1]; exact hB x o n1 n2 z⟩
    · -- state[2] = int(state[2] * 69621 + 12345) % 2147483647
      refine ⟨_, rfl, p, _, _, .int b, rfl, rfl, SqL.of hp, rfl, b, 69621, rfl, rfl, .inl ⟨by omega, by omega⟩, _, _, rfl, rfl, .inl ⟨_, rfl, _, _, rfl, rfl, (by show (2147483647 : Int) ≠ 0; decide), ?_⟩⟩
      refine ⟨_, rfl, p, _, 2, 2, rfl, rfl, hp, rfl, ?_⟩
      have rg := fmod_range (x := b * 69621 + 12345) (m := 2147483647) (by decide)
      -- mixed = ..
      refine ⟨_, rfl, p, _, _, .int ((b * 69621 + 12345).fmod 2147483647), rfl, rfl, SqL.of upd_same, rfl, _, 48271, rfl, rfl, .inl ⟨by omega, by omega⟩, _, rfl, p, _, _, .int ((b * 69621 + 12345).fmod 2147483647), rfl, rfl, SqL.of upd_same, rfl, _, 8191, rfl, rfl, ⟨by decide, by decide⟩, _, _, rfl, rfl, .inl ⟨_, rfl, _, _, rfl, rfl, (by show (2147483629 : Int) ≠ 0; decide), ?_⟩⟩
      -- return int(mixed // 32) % many
      refine ⟨_, rfl, _, 32, rfl, rfl, ⟨by decide, by decide⟩, .inl ⟨_, rfl, _, rfl, _, _, rfl, rfl, by omega, ?_⟩⟩
      have rg2 := fun x => fmod_range (x := x) (m := m) hm1
      exact k _ _ (rg2 _).1 (rg2 _).2 ⟨cs, a, _, upd_same, by rw [upd_ne hpq.symm]; exact hq, rg.1, rg.2⟩ fun x o n1 n2 z => by rw [upd_ne n1]; exact hB x o n1 n2 z
end
/-! ### data, compared by the law's own strict comparison -/
/-- data of a depth below n, with lists that a range can walk -/
def DOk : Nat → PyData → Prop
  | 0, _ => False
  | _ + 1, .none => True
  | _ + 1, .bool _ => True
  | _ + 1, .int _ => True
  | _ + 1, .str _ => True
  | n + 1, .list xs => xs.length ≤ 100000 ∧ ∀ x ∈ xs, DOk n x
  | n + 1, .tuple xs => xs.length ≤ 100000 ∧ ∀ x ∈ xs, DOk n x
  | _ + 1, .dict _ => False
theorem dpl_len {K : PySem.W.Frag} {H : Hp} : ∀ {vs : List V} {ds : List PyData}, DpAll K H vs ds → vs.length = ds.length
  | _, _, .nil => rfl
  | _, _, .cons _ t => congrArg (· + 1) (dpl_len t)
theorem dpl_at {K : PySem.W.Frag} {H : Hp} : ∀ {vs : List V} {ds : List PyData} {i : Nat} {d : PyData}, DpAll K H vs ds → ds[i]? = some d → ∃ v, vs[i]? = some v ∧ Dp K H v d
  | _, _, _, _, .nil, e => by simp at e
  | _, _, 0, _, .cons h _, e => by
    simp at e
    subst e
    exact ⟨_, rfl, h⟩
  | _, _, i + 1, d, .cons _ t, e => by
    obtain ⟨v, h1, h2⟩ := dpl_at (i := i) (d := d) t (by simpa using e)
    exact ⟨v, by simpa using h1, h2⟩
theorem same_rd {H H' : Hp} {a : Addr} {u : HO} (e : Same H H') (h : Rd H a u) : Rd H' a u := by
  rcases h with h | ⟨o, h⟩
  · exact .inl (e a _ h)
  · exact .inr ⟨o, e a _ h⟩
theorem same_t {K : PySem.W.Frag} {H H' : Hp} {a : Addr} {xs : List V} (e : Same H H') (h : SqT K H a xs) : SqT K H' a xs := by
  rcases h with h | h
  · exact .inl (same_rd e h)
  · exact .inr h
mutual
theorem dp_keep {K : PySem.W.Frag} {H H' : Hp} (e : Same H H') : ∀ {v : V} {d : PyData}, Dp K H v d → Dp K H' v d
  | _, _, .non => .non
  | _, _, .bl b => .bl b
  | _, _, .int i => .int i
  | _, _, .str x => .str x
  | _, _, .lst h t => .lst (e.seq h) (dpl_keep e t)
  | _, _, .tup h t => .tup (same_t e h) (dpl_keep e t)
theorem dpl_keep {K : PySem.W.Frag} {H H' : Hp} (e : Same H H') : ∀ {vs : List V} {ds : List PyData}, DpAll K H vs ds → DpAll K H' vs ds
  | _, _, .nil => .nil
  | _, _, .cons h t => .cons (dp_keep e h) (dpl_keep e t)
end
theorem tyx_l {K : PySem.W.Frag} {H : Hp} {a : Addr} {xs : List V} (h : SqL K H a xs) : TyX K H (.ref a) (.type "list") := by
  rcases h with (h | ⟨o, h⟩) | ⟨o, its, n, h, c, _⟩
  · exact .base (.lst h)
  · exact .base (.frz h)
  · exact .kList h c
theorem tyx_t {K : PySem.W.Frag} {H : Hp} {a : Addr} {xs : List V} (h : SqT K H a xs) : TyX K H (.ref a) (.type "tuple") := by
  rcases h with (h | ⟨o, h⟩) | ⟨o, its, n, h, c, _⟩
  · exact .base (.tup h)
  · exact .fTuple h
  · exact .kTuple h c
theorem ifF {b : Bool} {A B : Prop} (hb : b = false) (h : B) : if b = true then A else B := by
  subst hb
  exact iteF h
theorem ifT {b : Bool} {A B : Prop} (hb : b = true) (h : A) : if b = true then A else B := by
  subst hb
  exact iteT h
theorem dI (a b : Int) : decide (V.int a = V.int b) = decide (a = b) := by
  rw [dec_int, Bool.beq_eq_decide_eq]
theorem dB (a b : Bool) : decide (V.bl a = V.bl b) = decide (a = b) := by
  rw [dec_bl]
  cases a <;> cases b <;> rfl
/-- the strict comparison of like data is True -/
def spSame (K : PySem.W.Frag) (n : Nat) : Sp := fun vs H Q _ => ∃ (x y : V) (d : PyData), vs = [x, y] ∧ Dp K H x d ∧ Dp K H y d ∧ DOk n d ∧ ∀ H', Same H H' → Q (.bl true) H'
section
variable {P : Program} {w : World} {K : PySem.W.Frag} {mg : Str → Option Value} {base : Heap} {f : Addr} {fd : FuncData}
abbrev s_l_same : Stmt := topS 9
theorem sc_l_same : FnScope ["actual", "due", "k"] ["actual", "due"] (defScope s_l_same) := ⟨rfl, rfl, rfl, by decide +kernel, rfl, by decide +kernel, by decide +kernel⟩

theorem ok_same {n : Nat} (F : Fun K "_law_same" "_law_same" s_l_same f fd) (T : Txt K mg) (C_l_same : Callee P w K mg base n "_law_same" ["actual", "due"] (spSame K n)) : FnOk P w K mg base CX0 (n + 1) f fd ["actual", "due"] (spSame K (n + 1)) := by
  refine F.ok sc_l_same (fun vs H Q E h => ?_) (fun cdv A outer s H vs Q E hr h => ?_)
  · obtain ⟨x, y, d, rfl, _⟩ := h
    rfl
  obtain ⟨x, y, d, rfl, hx, hy, hd, k⟩ := h
  have k0 : ∀ z : Bool, z = true → Q (.bl z) H := fun z e => by
    rw [e]
    exact k H (Same.refl H)
  refine ⟨_, (pss_cons (ps_if (pt_cmpR op_isN (pv 1) pe_non (nomark _))
      (pss_one (ps_ret (pe_cmpR op_isN (pv 0) pe_non (nomark _))))
      pss_nil)
    (pss_cons (ps_if (pt_val (pe_callB call_isi (by rfl) T.z_isinstance (by decide +kernel) (pa_cons (pv 1) (pa_cons (pe_bltn (v := .ty "bool") (by rfl) T.z_bool (by decide +kernel) rfl) pa_nil))))
      (pss_one (ps_ret (pe_and (pe_callB call_isi (by rfl) T.z_isinstance (by decide +kernel) (pa_cons (pv 0) (pa_cons (pe_bltn (v := .ty "bool") (by rfl) T.z_bool (by decide +kernel) rfl) pa_nil))) (pe_one (pe_cmpR op_eq (pv 0) (pv 1) (nomark _))))))
      pss_nil)
    (pss_cons (ps_if (pt_val (pe_callB call_isi (by rfl) T.z_isinstance (by decide +kernel) (pa_cons (pv 1) (pa_cons (pe_bltn (v := .ty "int") (by rfl) T.z_int (by decide +kernel) rfl) pa_nil))))
      (pss_one (ps_ret (pe_and (pe_callB call_isi (by rfl) T.z_isinstance (by decide +kernel) (pa_cons (pv 0) (pa_cons (pe_bltn (v := .ty "int") (by rfl) T.z_int (by decide +kernel) rfl) pa_nil))) (pe_and (pe_not (pe_callB call_isi (by rfl) T.z_isinstance (by decide +kernel) (pa_cons (pv 0) (pa_cons (pe_bltn (v := .ty "bool") (by rfl) T.z_bool (by decide +kernel) rfl) pa_nil)))) (pe_one (pe_cmpR op_eq (pv 0) (pv 1) (nomark _)))))))
      pss_nil)
    (pss_cons (ps_if (pt_val (pe_callB call_isi (by rfl) T.z_isinstance (by decide +kernel) (pa_cons (pv 1) (pa_cons (pe_bltn (v := .ty "str") (by rfl) T.z_str (by decide +kernel) rfl) pa_nil))))
      (pss_one (ps_ret (pe_and (pe_callB call_isi (by rfl) T.z_isinstance (by decide +kernel) (pa_cons (pv 0) (pa_cons (pe_bltn (v := .ty "str") (by rfl) T.z_str (by decide +kernel) rfl) pa_nil))) (pe_one (pe_cmpR op_eq (pv 0) (pv 1) (nomark _))))))
      pss_nil)
    (pss_cons (ps_if (PW.pt (pw_or (pt_cmpR op_ne (pe_callB call_isi (by rfl) T.z_isinstance (by decide +kernel) (pa_cons (pv 1) (pa_cons (pe_bltn (v := .ty "list") (by rfl) T.z_list (by decide +kernel) rfl) pa_nil))) (pe_callB call_isi (by rfl) T.z_isinstance (by decide +kernel) (pa_cons (pv 0) (pa_cons (pe_bltn (v := .ty "list") (by rfl) T.z_list (by decide +kernel) rfl) pa_nil))) (nomark _)) (pw_or1 (pt_cmpR op_ne (pe_callB call_isi (by rfl) T.z_isinstance (by decide +kernel) (pa_cons (pv 1) (pa_cons (pe_bltn (v := .ty "tuple") (by rfl) T.z_tuple (by decide +kernel) rfl) pa_nil))) (pe_callB call_isi (by rfl) T.z_isinstance (by decide +kernel) (pa_cons (pv 0) (pa_cons (pe_bltn (v := .ty "tuple") (by rfl) T.z_tuple (by decide +kernel) rfl) pa_nil))) (nomark _)))))
      (pss_one (ps_ret pe_bl))
      pss_nil)
    (pss_cons (ps_if (pt_cmpR op_ne (pe_callB call_len_seq (by rfl) T.z_len (by decide +kernel) (pa_cons (pv 0) pa_nil)) (pe_callB call_len_seq (by rfl) T.z_len (by decide +kernel) (pa_cons (pv 1) pa_nil)) (nomark _))
      (pss_one (ps_ret pe_bl))
      pss_nil)
    (pss_cons (ps_for PassesOwn.never rfl (pi_range1 (by rfl) T.z_range (pa_cons (pe_callB call_len_seq (by rfl) T.z_len (by decide +kernel) (pa_cons (pv 1) pa_nil)) pa_nil)) (pg_name (i := 2) sc_l_same.nd rfl (Or.inl rfl))
      (pss_one (ps_if (pt_not (pt_val (pe_call C_l_same.ok (hr.mono (by omega)) (by rfl) C_l_same.mg C_l_same.kp C_l_same.b .nil pass0 (pa_cons (pe_ix ix_seq (pv 0) (pv 2) (fun _ _ => rfl)) (pa_cons (pe_ix ix_seq (pv 1) (pv 2) (fun _ _ => rfl)) pa_nil)))))
        (pss_one (ps_ret pe_bl))
        pss_nil)))
    (pss_one (ps_ret pe_bl))))))))), ?_⟩
  cases hx with
  | non =>
    cases hy
    exact ⟨_, rfl, rfl, _, rfl, ifT (by rfl) ⟨_, rfl, rfl, k0 _ (by rfl)⟩⟩
  | bl b =>
    cases hy
    refine ⟨_, rfl, rfl, _, rfl, ifF (by rfl) ⟨_, rfl, _, .ty "bool", _, _, true, rfl, .ty "bool", (.base (.bl b)), kit_ty (by decide +kernel), _, rfl, ifT rfl ?_⟩⟩
    exact ⟨_, rfl, _, .ty "bool", _, _, true, rfl, .ty "bool", (.base (.bl b)), kit_ty (by decide +kernel), _, rfl, ifT rfl ⟨_, rfl, _, rfl, rfl, k0 _ (decide_eq_true rfl)⟩⟩
  | int i =>
    cases hy
    refine ⟨_, rfl, rfl, _, rfl, ifF (by rfl) ⟨_, rfl, _, .ty "bool", _, _, false, rfl, .ty "bool", (.base (.int i)), kit_ty (by decide +kernel), _, rfl, ifF rfl ⟨_, rfl, _, .ty "int", _, _, true, rfl, .ty "int", (.base (.int i)), kit_ty (by decide +kernel), _, rfl, ifT rfl ?_⟩⟩⟩
    refine ⟨_, rfl, _, .ty "int", _, _, true, rfl, .ty "int", (.base (.int i)), kit_ty (by decide +kernel), _, rfl, ifT rfl ⟨_, rfl, _, .ty "bool", _, _, false, rfl, .ty "bool", (.base (.int i)), kit_ty (by decide +kernel), _, rfl, _, rfl, ifT rfl ⟨_, rfl, _, rfl, rfl, k0 _ (decide_eq_true rfl)⟩⟩⟩
  | str z =>
    cases hy
    refine ⟨_, rfl, rfl, _, rfl, ifF (by rfl) ⟨_, rfl, _, .ty "bool", _, _, false, rfl, .ty "bool", (.base (.str z)), kit_ty (by decide +kernel), _, rfl, ifF rfl ⟨_, rfl, _, .ty "int", _, _, false, rfl, .ty "int", (.base (.str z)), kit_ty (by decide +kernel), _, rfl, ifF rfl ⟨_, rfl, _, .ty "str", _, _, true, rfl, .ty "str", (.base (.str z)), kit_ty (by decide +kernel), _, rfl, ifT rfl ?_⟩⟩⟩⟩
    exact ⟨_, rfl, _, .ty "str", _, _, true, rfl, .ty "str", (.base (.str z)), kit_ty (by decide +kernel), _, rfl, ifT rfl ⟨_, rfl, _, rfl, rfl, k0 _ (decide_eq_true rfl)⟩⟩
  | @lst a xs ds hs hxs =>
    cases hy with
    | @lst a' ys _ hs' hys =>
      have tx := tyx_l hs
      have ty := tyx_l hs'
      obtain ⟨hlen, hall⟩ : ds.length ≤ 100000 ∧ ∀ x ∈ ds, DOk n x := hd
      refine ⟨_, rfl, rfl, _, rfl, ifF (by rfl) ⟨_, rfl, _, .ty "bool", _, _, false, rfl, .ty "bool", ty, kit_ty (by decide +kernel), _, rfl, ifF rfl ⟨_, rfl, _, .ty "int", _, _, false, rfl, .ty "int", ty, kit_ty (by decide +kernel), _, rfl, ifF rfl ⟨_, rfl, _, .ty "str", _, _, false, rfl, .ty "str", ty, kit_ty (by decide +kernel), _, rfl, ifF rfl ?_⟩⟩⟩⟩
      refine ⟨_, rfl, _, .ty "list", _, _, true, rfl, .ty "list", ty, kit_ty (by decide +kernel), _, rfl, _, .ty "list", _, _, true, rfl, .ty "list", tx, kit_ty (by decide +kernel), rfl, _, rfl, ifF rfl ⟨_, rfl, _, .ty "tuple", _, _, false, rfl, .ty "tuple", ty, kit_ty (by decide +kernel), _, rfl, _, .ty "tuple", _, _, false, rfl, .ty "tuple", tx, kit_ty (by decide +kernel), rfl, _, rfl, ifF rfl ?_⟩⟩
      refine ⟨_, rfl, a, xs, rfl, .inl hs, _, rfl, a', ys, rfl, .inl hs', rfl, _, rfl, ifF (by rw [dI, dpl_len hxs, dpl_len hys, decide_eq_true rfl]; rfl) ?_⟩
      refine ⟨_, rfl, a', ys, rfl, .inl hs', _, rfl, ?_, ?_, for_range (lo := 0) (fun i σ H' => ∃ v, σ = [some (.ref a), some (.ref a'), v] ∧ Same H H') ⟨none, rfl, Same.refl H⟩ ?_ ?_⟩
      · omega
      · rw [dpl_len hys]
        omega
      · rintro i σ H2 hi ⟨v, rfl, s2⟩
        have hi' : i < ds.length := by
          have q := dpl_len hys
          omega
        have hd' := List.getElem?_eq_getElem hi'
        obtain ⟨u1, hu1, d1⟩ := dpl_at hxs hd'
        obtain ⟨u2, hu2, d2⟩ := dpl_at hys hd'
        have e0 : (0 : Int) + (i : Int) = (i : Int) := Int.zero_add _
        rw [e0]
        refine ⟨_, rfl, _, rfl, .inl ⟨a, xs, _, u1, rfl, rfl, s2.seq hs, atI_nat hu1, _, rfl, _, rfl, .inl ⟨a', ys, _, u2, rfl, rfl, s2.seq hs', atI_nat hu2, ?_⟩⟩⟩
        exact ⟨u1, u2, ds[i], rfl, dp_keep s2 d1, dp_keep s2 d2, hall _ (List.getElem_mem hi'), fun H3 s3 => ⟨_, rfl, ifF rfl ⟨_, rfl, s2.trans s3⟩⟩⟩
      · rintro σ H2 ⟨v, rfl, s2⟩
        exact k H2 s2
  | @tup a xs ds hs hxs =>
    cases hy with
    | @tup a' ys _ hs' hys =>
      have tx := tyx_t hs
      have ty := tyx_t hs'
      obtain ⟨hlen, hall⟩ : ds.length ≤ 100000 ∧ ∀ x ∈ ds, DOk n x := hd
      refine ⟨_, rfl, rfl, _, rfl, ifF (by rfl) ⟨_, rfl, _, .ty "bool", _, _, false, rfl, .ty "bool", ty, kit_ty (by decide +kernel), _, rfl, ifF rfl ⟨_, rfl, _, .ty "int", _, _, false, rfl, .ty "int", ty, kit_ty (by decide +kernel), _, rfl, ifF rfl ⟨_, rfl, _, .ty "str", _, _, false, rfl, .ty "str", ty, kit_ty (by decide +kernel), _, rfl, ifF rfl ?_⟩⟩⟩⟩
      refine ⟨_, rfl, _, .ty "list", _, _, false, rfl, .ty "list", ty, kit_ty (by decide +kernel), _, rfl, _, .ty "list", _, _, false, rfl, .ty "list", tx, kit_ty (by decide +kernel), rfl, _, rfl, ifF rfl ⟨_, rfl, _, .ty "tuple", _, _, true, rfl, .ty "tuple", ty, kit_ty (by decide +kernel), _, rfl, _, .ty "tuple", _, _, true, rfl, .ty "tuple", tx, kit_ty (by decide +kernel), rfl, _, rfl, ifF rfl ?_⟩⟩
      refine ⟨_, rfl, a, xs, rfl, .inr hs, _, rfl, a', ys, rfl, .inr hs', rfl, _, rfl, ifF (by rw [dI, dpl_len hxs, dpl_len hys, decide_eq_true rfl]; rfl) ?_⟩
      refine ⟨_, rfl, a', ys, rfl, .inr hs', _, rfl, ?_, ?_, for_range (lo := 0) (fun i σ H' => ∃ v, σ = [some (.ref a), some (.ref a'), v] ∧ Same H H') ⟨none, rfl, Same.refl H⟩ ?_ ?_⟩
      · omega
      · rw [dpl_len hys]
        omega
      · rintro i σ H2 hi ⟨v, rfl, s2⟩
        have hi' : i < ds.length := by
          have q := dpl_len hys
          omega
        have hd' := List.getElem?_eq_getElem hi'
        obtain ⟨u1, hu1, d1⟩ := dpl_at hxs hd'
        obtain ⟨u2, hu2, d2⟩ := dpl_at hys hd'
        have e0 : (0 : Int) + (i : Int) = (i : Int) := Int.zero_add _
        rw [e0]
        refine ⟨_, rfl, _, rfl, .inr (.inl ⟨a, xs, _, u1, rfl, rfl, same_t s2 hs, atI_nat hu1, _, rfl, _, rfl, .inr (.inl ⟨a', ys, _, u2, rfl, rfl, same_t s2 hs', atI_nat hu2, ?_⟩)⟩)⟩
        exact ⟨u1, u2, ds[i], rfl, dp_keep s2 d1, dp_keep s2 d2, hall _ (List.getElem_mem hi'), fun H3 s3 => ⟨_, rfl, ifF rfl ⟨_, rfl, s2.trans s3⟩⟩⟩
      · rintro σ H2 ⟨v, rfl, s2⟩
        exact k H2 s2
end
/-! ### a comprehension whose turns tell their test and their item -/
def fm (n : Nat) (b : Nat → Bool) (v : Nat → V) : List V := ((List.range n).filter b).map v
theorem fm_len (n : Nat) (b : Nat → Bool) (v : Nat → V) : (fm n b v).length ≤ n := by
  unfold fm
  rw [List.length_map]
  exact Nat.le_trans (List.length_filter_le _ _) (by rw [List.length_range]; exact Nat.le_refl _)
theorem fm_step (n : Nat) (b : Nat → Bool) (v : Nat → V) : fm (n + 1) b v = fm n b v ++ (if b n = true then [v n] else []) := by
  unfold fm
  rw [List.range_succ, List.filter_append, List.map_append]
  congr 1
  cases h : b n with
  | true => simp [List.filter, h]
  | false => simp [List.filter, h]
theorem lc_fm {J : It} {n : Nat} {G : Hp → Prop} {Y : Nat → Hp → V → Hp → Prop} (w : Walk J n G Y) {g : TG} {tt : TT} {te : TE} {vs : List Nat} {σ : L2.St} {H1 : Hp} {D : Addr} {Qd : Hp → Prop} (hn : n ≤ 100000) (hD : H1 D = none) (b : Nat → Bool) (v : Nat → V)
    (hG : ∀ H, Same H1 H → G H)
    (hs : ∀ i x H H' (NT : VK) (NF : Hp → Prop), i < n → Same H1 H → Y i H x H' → (∀ H3, Same H H3 → b i = false → NF H3) → (∀ H4, Same H H4 → b i = true → NT (v i) H4) → g x (wipe σ vs) H' fun σ2 H2 => wipe σ2 vs = wipe σ vs ∧ tt σ2 H2 fun c H3 => if c = true then te σ2 H3 NT else NF H3)
    (hd : ∀ H, Same H1 H → H D = some (.lst (fm n b v)) → Qd H) :
    ∃ W : Nat → Nat → Hp → Prop, (∃ m, W 0 m (upd H1 D (.lst []))) ∧ ∀ i m H, W i m H →
      (J.stop i H ∧ Qd H) ∨ (J.go i H ∧ ∃ Nx : Hp → Prop, (∀ H', Nx H' → ∃ m', m' < m ∧ W (i + 1) m' H') ∧ ∀ x H', J.yld i H x H' → g x (wipe σ vs) H' fun σ2 H2 => wipe σ2 vs = wipe σ vs ∧ tt σ2 H2 fun b H3 =>
        if b = true then te σ2 H3 fun y H4 => ∃ acc, H4 D = some (.lst acc) ∧ acc.length < sizeLine ∧ Nx (upd H4 D (.lst (acc ++ [y]))) else Nx H3) := by
  refine lc_it w (fun i H => Same H1 H ∧ H D = some (.lst (fm i b v))) ⟨same_upd hD, upd_same⟩ (fun i H _ h => hG H h.1) (fun i x H H' hi h y => ?_) (fun H h => hd H h.1 h.2)
  have st := fm_step i b v
  refine hs i x H H' _ _ hi h.1 y (fun H3 s3 e => ⟨h.1.trans s3, ?_⟩) (fun H4 s4 e => ⟨_, s4 _ _ h.2, ?_, fun c u z => ?_, ?_⟩)
  · rw [st, e, if_neg Bool.false_ne_true, List.append_nil]
    exact s3 _ _ h.2
  · refine Nat.lt_of_le_of_lt (fm_len i b v) (Nat.lt_of_lt_of_le (Nat.lt_of_lt_of_le hi hn) (by decide))
  · rw [upd_ne (ne_of_none z hD)]
    exact s4 _ _ (h.1 c u z)
  · rw [upd_same, st, e, if_pos rfl]
/-- an item at a place in bounds -/
theorem at_in {xs : List V} {i : Int} (h0 : 0 ≤ i) (h1 : i < (xs.length : Int)) : ∃ v, atI xs i = some v ∧ v ∈ xs := by
  have h2 : i.toNat < xs.length := by omega
  have e : ((i.toNat : Nat) : Int) = i := by omega
  have q := atI_nat (List.getElem?_eq_getElem h2)
  rw [e] at q
  exact ⟨_, q, List.getElem_mem h2⟩
theorem atN_in {xs : List Nat} {i : Int} (h0 : 0 ≤ i) (h1 : i < (xs.length : Int)) : ∃ v, atI xs i = some v ∧ v ∈ xs := by
  have h2 : i.toNat < xs.length := by omega
  have e : ((i.toNat : Nat) : Int) = i := by omega
  have q := atI_nat (List.getElem?_eq_getElem h2)
  rw [e] at q
  exact ⟨_, q, List.getElem_mem h2⟩
/-- the i-th sign -/
def sgn (z : Str) (i : Nat) : Nat := z.cps.toList.getD i 0
def good (z : Str) (i : Nat) : Bool := decide (sgn z i ∈ (LET ++ FIG).cps.toList)
/-- what is_name tells -/
def nm (z : Str) : Bool :=
  if (z.length < 1 ∨ 12 < z.length) ∨ inV (.str z) keptV = true then false
  else decide (sgn z 0 ∈ LET.cps.toList) && ((List.range z.length).map (good z)).all id
theorem sml_eq : (LET ++ FIG).cps.toList = SML.cps.toList := by decide +kernel
theorem flat_strs (ns : List Str) : (ns.map V.str).all flatV = true := by
  induction ns with
  | nil => rfl
  | cons n r ih =>
    show (flatV (.str n) && (r.map V.str).all flatV) = true
    rw [ih] <;> rfl
theorem at0 {z : Str} (h : 1 ≤ z.length) : atI z.cps.toList 0 = some (sgn z 0) := by
  have h2 : 0 < z.cps.toList.length := by
    rw [Array.length_toList]
    exact h
  have q : atI z.cps.toList ((0 : Nat) : Int) = some z.cps.toList[0] := atI_nat (List.getElem?_eq_getElem h2)
  unfold sgn
  rw [List.getD_eq_getElem?_getD, List.getElem?_eq_getElem h2]
  exact q
theorem sgn_at {z : Str} {i c : Nat} (h : z.cps[i]? = some c) : sgn z i = c := by
  unfold sgn
  rw [List.getD_eq_getElem?_getD, Array.getElem?_toList, h]
  rfl
def spName : Sp := fun vs H Q _ => ∃ z : Str, vs = [.str z] ∧ z.length ≤ 1000 ∧ ∀ H', Same H H' → Q (.bl (nm z)) H'
section
variable {P : Program} {w : World} {K : PySem.W.Frag} {mg : Str → Option Value} {base : Heap} {f : Addr} {fd : FuncData}
abbrev s_is_name : Stmt := topS 5
theorem sc_is_name : FnScope ["text", "sign"] ["text"] (defScope s_is_name) := ⟨rfl, rfl, rfl, by decide +kernel, rfl, by decide +kernel, by decide +kernel⟩

theorem ok_name (F : Fun K "is_name" "is_name" s_is_name f fd) (T : Txt K mg) : FnOk P w K mg base CX0 1 f fd ["text"] spName := by
  refine F.ok sc_is_name (fun vs H Q E h => ?_) (fun cdv A outer s H vs Q E hr h => ?_)
  · obtain ⟨z, rfl, _⟩ := h
    rfl
  obtain ⟨z, rfl, hz, k⟩ := h
  obtain ⟨kw, mkw, hkw⟩ := T.g_kept
  refine ⟨_, (pss_cons (ps_if (pt_cut (PW.pt (pw_or (pt_not (pt_chain op_le op_le pe_int (pe_callB call_len_str (by rfl) T.z_len (by decide +kernel) (pa_cons (pv 0) pa_nil)) (C8.pe_gc (v := .int 12) rfl T.g_most))) (pw_or1 (pt_cmpR op_in_seq (pv 0) (pe_glob (v := .ref kw) rfl mkw rfl) (by rfl))))))
      (pss_one (ps_ret pe_bl))
      pss_nil)
    (pss_one (ps_ret (pe_cut (pe_and (pe_cmpR op_in_sign (pe_ix ix_str (pv 0) pe_int (fun _ _ => rfl)) (C8.pe_gc (v := .str LET) rfl T.g_letters) (by rfl)) (pe_one (pe_callB (cr_all rfl) (by rfl) T.z_all (by decide +kernel) (pa_cons (pe_lc (own := [("sign", 1)]) (g := gName 1) (tt := tYes) rfl sc_is_name.nd (pi_str (pv 0)) (blkOk_by (own := [("sign", 1)]) (N := ["text", "sign"]) (sc := defScope s_is_name) (by decide +kernel)) (fun _ _ _ _ _ => pg_name (i := 1) sc_is_name.nd rfl (Or.inl rfl)) (fun _ _ _ _ _ => pts_nil) (fun _ _ _ _ _ => (pe_cmpR op_in_sign (pv 1) (pe_op op_add_str (C8.pe_gc (v := .str LET) rfl T.g_letters) (C8.pe_gc (v := .str FIG) rfl T.g_figures)) (by rfl)))) pa_nil)))))))), ?_⟩
  have k0 : ∀ b, b = nm z → Q (.bl b) H := fun b e => by
    rw [e]
    exact k H (Same.refl H)
  refine ⟨fun b H' => H = H' ∧ b = decide ((z.length < 1 ∨ 12 < z.length) ∨ inV (.str z) keptV = true), ?_, ?_⟩
  · -- not 1 <= len(text) <= 12
    have c12 : (12 : Int) = ((12 : Nat) : Int) := rfl
    by_cases h1 : z.length < 1
    · refine ⟨_, rfl, _, rfl, Nat.le_trans hz (by decide), 1, _, rfl, rfl, _, rfl, ifF (decide_eq_false (by omega)) ⟨_, rfl, ifT rfl ⟨rfl, ?_⟩⟩⟩
      exact (decide_eq_true (.inl (.inl h1))).symm
    · by_cases h2 : 12 < z.length
      · refine ⟨_, rfl, _, rfl, Nat.le_trans hz (by decide), 1, _, rfl, rfl, _, rfl, ifT (decide_eq_true (by omega)) ⟨_, _, rfl, rfl, _, rfl, ifT (by rw [decide_eq_false (by omega)]; rfl) ⟨rfl, ?_⟩⟩⟩
        exact (decide_eq_true (.inl (.inr h2))).symm
      · refine ⟨_, rfl, _, rfl, Nat.le_trans hz (by decide), 1, _, rfl, rfl, _, rfl, ifT (decide_eq_true (by omega)) ⟨_, _, rfl, rfl, _, rfl, ifF (by rw [decide_eq_true (by omega)]; rfl) ?_⟩⟩
        refine ⟨_, rfl, kw, _, rfl, .inr (hkw H), rfl, flat_strs keptL, _, rfl, rfl, ?_⟩
        cases e : inV (.str z) keptV with
        | true => exact (decide_eq_true (.inr rfl)).symm
        | false => exact (decide_eq_false (by rintro ((h | h) | h); exact h1 h; exact h2 h; cases h)).symm
  · rintro _ _ ⟨rfl, rfl⟩
    refine ite2 (fun c => ?_) (fun c => ?_)
    · refine k0 _ ?_
      unfold nm
      rw [if_pos (of_decide_eq_true c)]
    · have c' : ¬ ((z.length < 1 ∨ 12 < z.length) ∨ inV (.str z) keptV = true) := fun h => c (decide_eq_true h)
      have l1 : 1 ≤ z.length := by
        have : ¬ z.length < 1 := fun h => c' (.inl (.inl h))
        omega
      have en : nm z = (decide (sgn z 0 ∈ LET.cps.toList) && ((List.range z.length).map (good z)).all id) := by
        unfold nm
        rw [if_neg c']
      refine ⟨fun v H' => Same H H' ∧ v = .bl (nm z), ?_, ?_⟩
      · refine ⟨_, rfl, z, 0, _, rfl, rfl, Nat.le_trans hz (by decide), at0 l1, _, LET, rfl, rfl, _, rfl, ?_⟩
        refine ite2 (fun q => ?_) (fun q => ?_)
        · refine ⟨_, rfl, z, rfl, fun D hD => ?_⟩
          refine lc_fm (walk_str (z := z)) (Nat.le_trans hz (by decide)) hD (fun _ => true) (fun i => .bl (good z i)) (fun _ _ => trivial) ?_ ?_
          · rintro i x H2 H3 NT NF hi s2 ⟨rfl, sg, e1, rfl⟩ _ yT
            refine ⟨rfl, ?_⟩
            unfold tYes
            refine iteT ⟨_, rfl, LET, FIG, rfl, rfl, by decide, sg, _, rfl, rfl, ?_⟩
            have q := yT H3 (Same.refl _) rfl
            unfold good at q
            rw [sgn_at e1] at q
            exact q
          · intro H2 s2 e2
            refine ⟨D, (List.range z.length).map (good z), rfl, SqL.of ?_, ?_, ?_⟩
            · rw [e2]
              unfold fm
              rw [List.filter_eq_self.mpr (fun _ _ => rfl), List.map_map]
              rfl
            · exact s2
            · rw [en, decide_eq_true (of_decide_eq_true q)]
              rfl
        · refine ⟨Same.refl H, ?_⟩
          rw [en, decide_eq_false (fun h => q (decide_eq_true h))]
          rfl
      · rintro _ H' ⟨s2, rfl⟩
        exact k H' s2
abbrev s_l_kept : Stmt := topS 10
theorem sc_l_kept : FnScope ["words"] [] (defScope s_l_kept) := ⟨rfl, rfl, rfl, by decide +kernel, rfl, by decide +kernel, by decide +kernel⟩

def spKept : Sp := fun vs H Q _ => vs = [] ∧ ∀ (p : Addr) H', Same H H' → H p = none → H' p = some (.lst keptV) → Q (.ref p) H'
theorem ok_kept (F : Fun K "_law_kept" "_law_kept" s_l_kept f fd) (T : Txt K mg) : FnOk P w K mg base CX0 1 f fd [] spKept := by
  refine F.ok sc_l_kept (fun vs H Q E h => ?_) (fun cdv A outer s H vs Q E hr h => ?_)
  · obtain ⟨rfl, _⟩ := h
    rfl
  obtain ⟨rfl, k⟩ := h
  refine ⟨_, (pss_cons (ps_set (i := 0) sc_l_kept.nd rfl (Or.inl rfl) pe_str)
    (pss_cons (ps_set (i := 0) sc_l_kept.nd rfl (Or.inl rfl) (pe_op op_add_str (pv 0) pe_str))
    (pss_one (ps_ret (pe_split (pe_op op_add_str (pv 0) pe_str) pe_str))))), ?_⟩
  refine ⟨_, rfl, _, _, rfl, rfl, by decide +kernel, _, rfl, _, _, rfl, rfl, by decide +kernel, ⟨_, rfl⟩, _, _, rfl, rfl, rfl, by decide +kernel, fun p hp => ?_⟩
  refine k p _ (same_upd hp) hp ?_
  rw [upd_same]
  refine congrArg (fun l : List Str => some (HO.lst (l.map V.str))) ?_
  decide +kernel
/-- what the law asks -/
def du (z : Str) : Bool :=
  if ((z.length < 1 ∨ 12 < z.length) ∨ inV (.str z) keptV = true) ∨ ¬ sgn z 0 ∈ LET.cps.toList then false
  else (fm z.length (fun i => !decide (sgn z i ∈ SML.cps.toList)) (fun i => .str ⟨#[sgn z i]⟩)).isEmpty
theorem filter_none {l : List Nat} {p : Nat → Bool} : (l.filter fun i => !p i).isEmpty = (l.map p).all id := by
  induction l with
  | nil => rfl
  | cons c r ih =>
    rw [List.filter_cons]
    cases h : p c with
    | true => simp [h, ih]
    | false => simp [h]
theorem du_nm (z : Str) : du z = nm z := by
  unfold du nm
  by_cases h1 : (z.length < 1 ∨ 12 < z.length) ∨ inV (.str z) keptV = true
  · rw [if_pos (.inl h1), if_pos h1]
  · rw [if_neg h1]
    by_cases h2 : sgn z 0 ∈ LET.cps.toList
    · rw [if_neg (by rintro (h | h); exact h1 h; exact h h2), decide_eq_true h2, Bool.true_and]
      unfold fm good
      rw [sml_eq, ← filter_none]
      simp
    · rw [if_pos (.inr h2), decide_eq_false h2]
      rfl
/-- a text that the law may draw -/
def Txo (z : Str) : Prop := z.length ≤ 1000 ∧ ∀ c ∈ z.cps.toList, c < 1114112
def spDue : Sp := fun vs H Q _ => ∃ z : Str, vs = [.str z] ∧ Txo z ∧ ∀ H', Same H H' → Q (.bl (nm z)) H'
theorem eqv_empty {ds : List PyData} : PyData.eqv (.list ds) (.list []) = ds.isEmpty := by
  cases ds <;> rfl
theorem canLay_strs {ns : List Str} (h : ∀ z ∈ ns, PyData.canLay0 (.str z) = true) : PyData.canLayAll0 (ns.map PyData.str) = true := by
  induction ns with
  | nil => rfl
  | cons n r ih =>
    show (PyData.canLay0 (.str n) && PyData.canLayAll0 (r.map PyData.str)) = true
    rw [ih (fun z hz => h z (List.mem_cons_of_mem _ hz)), h n List.mem_cons_self]
    rfl
theorem depth_strs (ns : List Str) : PyData.depthAll (ns.map PyData.str) = 0 := by
  induction ns with
  | nil => rfl
  | cons n r ih =>
    show max (PyData.depth (.str n)) (PyData.depthAll (r.map PyData.str)) = 0
    rw [ih] <;> rfl
theorem dp_strs {K : PySem.W.Frag} {H : Hp} {a : Addr} {ns : List Str} (h : SqL K H a (ns.map V.str)) : Dp K H (.ref a) (.list (ns.map PyData.str)) := by
  refine .lst h ?_
  clear h
  induction ns with
  | nil => exact .nil
  | cons n r ih => exact .cons (.str n) ih
abbrev s_l_due : Stmt := topS 12
theorem sc_l_due : FnScope ["text", "sign"] ["text"] (defScope s_l_due) := ⟨rfl, rfl, rfl, by decide +kernel, rfl, by decide +kernel, by decide +kernel⟩

theorem ok_due (F : Fun K "_law_due" "_law_due" s_l_due f fd) (T : Txt K mg) (C_l_kept : Callee P w K mg base 1 "_law_kept" [] spKept) : FnOk P w K mg base CX0 2 f fd ["text"] spDue := by
  refine F.ok sc_l_due (fun vs H Q E h => ?_) (fun cdv A outer s H vs Q E hr h => ?_)
  · obtain ⟨z, rfl, _⟩ := h
    rfl
  obtain ⟨z, rfl, ⟨hz, hok⟩, k⟩ := h
  refine ⟨_, (pss_cons (ps_if (pt_cut (PW.pt (pw_or (pt_cmpR op_lt (pe_callB call_len_str (by rfl) T.z_len (by decide +kernel) (pa_cons (pv 0) pa_nil)) pe_int (nomark _)) (pw_or (pt_cmpR op_gt (pe_callB call_len_str (by rfl) T.z_len (by decide +kernel) (pa_cons (pv 0) pa_nil)) pe_int (nomark _)) (pw_or (pt_cmpR op_in_seq (pv 0) (pe_call0 C_l_kept.ok (hr.mono (by omega)) (by rfl) C_l_kept.mg C_l_kept.kp C_l_kept.b .nil pass0) (by rfl)) (pw_or1 (pt_cmpR op_notIn_sign (pe_ix ix_str (pv 0) pe_int (fun _ _ => rfl)) pe_str (by rfl))))))))
      (pss_one (ps_ret pe_bl))
      pss_nil)
    (pss_one (ps_ret (pe_cmpR (op_eqD hr.units) (pe_lc (own := [("sign", 1)]) (g := gName 1)  rfl sc_l_due.nd (pi_str (pv 0)) (blkOk_by (own := [("sign", 1)]) (N := ["text", "sign"]) (sc := defScope s_l_due) (by decide +kernel)) (fun _ _ _ _ _ => pg_name (i := 1) sc_l_due.nd rfl (Or.inl rfl)) (fun _ _ _ _ _ => (pts_one (pt_cmpR op_notIn_sign (pv 1) pe_str (by rfl)))) (fun _ _ _ _ _ => (pv 1))) (pe_lst pa_nil) (nomark _))))), ?_⟩
  have k0 : ∀ b H', Same H H' → b = nm z → Q (.bl b) H' := fun b H' s e => by
    rw [e]
    exact k H' s
  refine ⟨fun b H' => Same H H' ∧ b = decide (((z.length < 1 ∨ 12 < z.length) ∨ inV (.str z) keptV = true) ∨ ¬ sgn z 0 ∈ LET.cps.toList), ?_, ?_⟩
  · refine ⟨_, rfl, _, rfl, Nat.le_trans hz (by decide), _, 1, rfl, rfl, _, rfl, ?_⟩
    refine ite2 (fun c => ?_) (fun c1 => ?_)
    · have c' := of_decide_eq_true c
      exact ⟨Same.refl H, (decide_eq_true (.inl (.inl (.inl (by omega))))).symm⟩
    have c1' : ¬ z.length < 1 := fun h => c1 (decide_eq_true (by omega))
    refine ⟨_, rfl, _, rfl, Nat.le_trans hz (by decide), _, 12, rfl, rfl, _, rfl, ?_⟩
    refine ite2 (fun c => ?_) (fun c2 => ?_)
    · have c' := of_decide_eq_true c
      exact ⟨Same.refl H, (decide_eq_true (.inl (.inl (.inr (by omega))))).symm⟩
    have c2' : ¬ 12 < z.length := fun h => c2 (decide_eq_true (by omega))
    refine ⟨_, rfl, rfl, fun p H2 s2 _ e2 => ⟨p, _, rfl, .inl (SqL.of e2), rfl, flat_strs keptL, _, rfl, ?_⟩⟩
    refine ite2 (fun c3 => ?_) (fun c3 => ?_)
    · exact ⟨s2, (decide_eq_true (.inl (.inr c3))).symm⟩
    refine ⟨_, rfl, z, 0, _, rfl, rfl, Nat.le_trans hz (by decide), at0 (by omega), _, _, rfl, rfl, _, rfl, s2, ?_⟩
    by_cases h2 : sgn z 0 ∈ LET.cps.toList
    · have r := decide_eq_false (p := ((z.length < 1 ∨ 12 < z.length) ∨ inV (.str z) keptV = true) ∨ ¬ sgn z 0 ∈ LET.cps.toList) (by rintro (((h | h) | h) | h); exact c1' h; exact c2' h; exact c3 h; exact h h2)
      have r2 := decide_eq_true h2
      exact (congrArg (fun b => !b) r2).trans r.symm
    · have r := decide_eq_true (p := ((z.length < 1 ∨ 12 < z.length) ∨ inV (.str z) keptV = true) ∨ ¬ sgn z 0 ∈ LET.cps.toList) (.inr h2)
      have r2 := decide_eq_false h2
      exact (congrArg (fun b => !b) r2).trans r.symm
  · rintro _ H2 ⟨s2, rfl⟩
    refine ite2 (fun c => ?_) (fun c => ?_)
    · refine k0 _ _ s2 ?_
      rw [← du_nm]
      unfold du
      rw [if_pos (of_decide_eq_true c)]
    · have c' := fun h => c (decide_eq_true h)
      refine ⟨_, rfl, z, rfl, fun D hD => ?_⟩
      refine lc_fm (walk_str (z := z)) (Nat.le_trans hz (by decide)) hD (fun i => !decide (sgn z i ∈ SML.cps.toList)) (fun i => .str ⟨#[sgn z i]⟩) (fun _ _ => trivial) ?_ ?_
      · rintro i x H3 H4 NT NF hi s3 ⟨rfl, sg, e1, rfl⟩ yF yT
        rw [sgn_at e1] at yF yT
        refine ⟨rfl, _, rfl, sg, SML, rfl, rfl, _, rfl, ?_⟩
        refine ite2 (fun q => ⟨_, rfl, yT _ (Same.refl _) q⟩) (fun q => yF _ (Same.refl _) (Bool.eq_false_iff.mpr q))
      · intro H3 s3 e3
        have e4 : fm z.cps.size (fun i => !decide (sgn z i ∈ SML.cps.toList)) (fun i => .str ⟨#[sgn z i]⟩) = (((List.range z.length).filter fun i => !decide (sgn z i ∈ SML.cps.toList)).map fun i => (⟨#[sgn z i]⟩ : Str)).map V.str := by
          unfold fm
          rw [List.map_map]
          rfl
        refine ⟨Nat.zero_le _, fun u hu => ?_⟩
        have s4 := same_upd (o := .lst []) hu
        rw [e4] at e3
        refine ⟨.list _, .list ([].map PyData.str), dp_strs (SqL.of (s4 _ _ e3)), dp_strs (SqL.of upd_same), ?_, rfl, ?_⟩
        · unfold SeqAt.shaped
          have q1 : PyData.canLay0 (.list ((((List.range z.length).filter fun i => !decide (sgn z i ∈ SML.cps.toList)).map fun i => (⟨#[sgn z i]⟩ : Str)).map PyData.str)) = true := canLay_strs (fun y hy => by
            obtain ⟨i, hi, rfl⟩ := List.mem_map.mp hy
            have hi' : i < z.cps.toList.length := by
              rw [Array.length_toList]
              exact List.mem_range.mp (List.mem_filter.mp hi).1
            have e : sgn z i = z.cps.toList[i] := by
              unfold sgn
              rw [List.getD_eq_getElem?_getD, List.getElem?_eq_getElem hi']
              rfl
            have q := hok _ (List.getElem_mem hi')
            rw [← e] at q
            show (#[sgn z i] : Array Nat).all (· < 0x110000) = true
            simp
            exact q)
          have q2 : PyData.depth (.list ((((List.range z.length).filter fun i => !decide (sgn z i ∈ SML.cps.toList)).map fun i => (⟨#[sgn z i]⟩ : Str)).map PyData.str)) = 1 := by
            show PyData.depthAll _ + 1 = 1
            rw [depth_strs]
          rw [q1, q2]
          rfl
        · refine k0 _ _ (s2.trans (s3.trans s4)) ?_
          refine (eqv_empty (ds := _)).trans ?_
          rw [← du_nm]
          unfold du fm
          rw [if_neg c']
          simp
end
/-! ### the law's texts -/
theorem txo_cat {x y : Str} (hx : x.length ≤ 100 ∧ ∀ c ∈ x.cps.toList, c < 1114112) (hy : y.length ≤ 100 ∧ ∀ c ∈ y.cps.toList, c < 1114112) : Txo (x ++ y) := by
  have e : (x ++ y).cps.toList = x.cps.toList ++ y.cps.toList := by rw [Str.cps_append, Array.toList_append]
  refine ⟨?_, fun c hc => ?_⟩
  · show (x ++ y).cps.size ≤ 1000
    rw [← Array.length_toList, e, List.length_append, Array.length_toList, Array.length_toList]
    have h1 : x.cps.size ≤ 100 := hx.1
    have h2 : y.cps.size ≤ 100 := hy.1
    omega
  · rw [e] at hc
    rcases List.mem_append.mp hc with h | h
    · exact hx.2 c h
    · exact hy.2 c h
/-- short texts -/
def Tx (n : Nat) (z : Str) : Prop := z.length ≤ n ∧ ∀ c ∈ z.cps.toList, c < 1114112
theorem tx_mono {m n : Nat} {z : Str} (h : Tx m z) (e : m ≤ n) : Tx n z := ⟨Nat.le_trans h.1 e, h.2⟩
theorem tx_cat {m n : Nat} {x y : Str} (hx : Tx m x) (hy : Tx n y) : Tx (m + n) (x ++ y) := by
  have e : (x ++ y).cps.toList = x.cps.toList ++ y.cps.toList := by rw [Str.cps_append, Array.toList_append]
  refine ⟨?_, fun c hc => ?_⟩
  · show (x ++ y).cps.size ≤ m + n
    rw [← Array.length_toList, e, List.length_append, Array.length_toList, Array.length_toList]
    have h1 : x.cps.size ≤ m := hx.1
    have h2 : y.cps.size ≤ n := hy.1
    omega
  · rw [e] at hc
    rcases List.mem_append.mp hc with h | h
    · exact hx.2 c h
    · exact hy.2 c h
theorem tx_cut {n : Nat} {z : Str} (h : Tx n z) (lo hi : Option Int) : Tx n (cutS z lo hi) := by
  refine ⟨Nat.le_trans (cutS_length z lo hi) h.1, fun c hc => ?_⟩
  unfold cutS at hc
  exact h.2 c (List.mem_of_mem_drop (List.mem_of_mem_take hc))
theorem tx_one {z : Str} {c : Nat} (h : ∀ c ∈ z.cps.toList, c < 1114112) (hc : c ∈ z.cps.toList) : Tx 1 ⟨#[c]⟩ := by
  refine ⟨by show 1 ≤ 1; decide, fun d hd => ?_⟩
  have e : d = c := by simpa using hd
  rw [e]
  exact h c hc
theorem tx_nil : Tx 0 ("" : Str) := ⟨by decide, fun c hc => by
  have e : ("" : Str).cps.toList = [] := by decide +kernel
  rw [e] at hc
  cases hc⟩
theorem len_tl (z : Str) : (z.cps.toList.length : Int) = (z.length : Int) := by
  rw [Array.length_toList]
  rfl
def txB (n : Nat) (z : Str) : Bool := decide (z.length ≤ n) && z.cps.toList.all fun c => decide (c < 1114112)
theorem tx_B {n : Nat} {z : Str} (h : txB n z = true) : Tx n z := by
  unfold txB at h
  rw [Bool.and_eq_true] at h
  exact ⟨of_decide_eq_true h.1, fun c hc => of_decide_eq_true (List.all_eq_true.mp h.2 c hc)⟩
theorem kept_tx {z : Str} (h : z ∈ keptL) : Tx 8 z ∧ Tx 8 (Txt.upper z) ∧ nm z = false := by
  have q : (keptL.all fun z => txB 8 z && txB 8 (Txt.upper z) && !nm z) = true := by decide +kernel
  have q1 := List.all_eq_true.mp q z h
  rw [Bool.and_eq_true, Bool.and_eq_true] at q1
  refine ⟨tx_B q1.1.1, tx_B q1.1.2, ?_⟩
  cases e : nm z with
  | false => rfl
  | true =>
    rw [e] at q1
    cases q1.2
theorem kept_len : keptL.length = 42 := by decide +kernel
abbrev EVR : Str := " !\"#$&'()*+,-./:;<=>?@ABCDEFGHIJKLMNOPQRSTUVWXYZ[\\]^_`{|}~"
theorem sml_tx : Tx 36 SML := tx_B (by decide +kernel)
theorem evr_tx : Tx 100 EVR := tx_B (by decide +kernel)
theorem sml_len : (SML.cps.toList.length : Int) = 36 := by decide +kernel
theorem evr_len : EVR.length = 58 := by decide +kernel
def spDrawn : Sp := fun vs H Q _ => ∃ (p q : Addr), vs = [.ref p] ∧ StOk H p q ∧ ∀ (z : Str) H', Txo z → StOk H' p q → Q (.str z) H'
section
variable {P : Program} {w : World} {K : PySem.W.Frag} {mg : Str → Option Value} {base : Heap} {f : Addr} {fd : FuncData}
abbrev s_l_drawn : Stmt := topS 11
theorem sc_l_drawn : FnScope ["state", "small", "every", "word", "text", "k", "place"] ["state"] (defScope s_l_drawn) := ⟨rfl, rfl, rfl, by decide +kernel, rfl, by decide +kernel, by decide +kernel⟩

theorem ok_drawn (F : Fun K "_law_drawn" "_law_drawn" s_l_drawn f fd) (T : Txt K mg) (C_l_kept : Callee P w K mg base 1 "_law_kept" [] spKept) (C_l_pick : Callee P w K mg base 1 "_law_pick" ["state", "many"] spPick) : FnOk P w K mg base CX0 2 f fd ["state"] spDrawn := by
  refine F.ok sc_l_drawn (fun vs H Q E h => ?_) (fun cdv A outer s H vs Q E hr h => ?_)
  · obtain ⟨p, q, rfl, _⟩ := h
    rfl
  obtain ⟨p, q, rfl, St, k⟩ := h
  refine ⟨_, (pss_cons (ps_set (i := 1) sc_l_drawn.nd rfl (Or.inl rfl) pe_str)
    (pss_cons (ps_set (i := 2) sc_l_drawn.nd rfl (Or.inl rfl) pe_str)
    (pss_cons (ps_if (pt_cmpR op_eq (pe_call C_l_pick.ok (hr.mono (by omega)) (by rfl) C_l_pick.mg C_l_pick.kp C_l_pick.b .nil pass0 (pa_cons (pv 0) (pa_cons pe_int pa_nil))) pe_int (nomark _))
      (pss_cons (ps_set (i := 3) sc_l_drawn.nd rfl (Or.inl rfl) (pe_ix ix_list (pe_call0 C_l_kept.ok (hr.mono (by omega)) (by rfl) C_l_kept.mg C_l_kept.kp C_l_kept.b .nil pass0) (pe_call C_l_pick.ok (hr.mono (by omega)) (by rfl) C_l_pick.mg C_l_pick.kp C_l_pick.b .nil pass0 (pa_cons (pv 0) (pa_cons pe_int pa_nil))) (fun _ _ => rfl)))
      (pss_one (ps_ret (pe_ix ix_list (pe_lst (pa_cons (pv 3) (pa_cons (pe_op op_add_str (pv 3) (pe_ix ix_str (pv 1) (pe_call C_l_pick.ok (hr.mono (by omega)) (by rfl) C_l_pick.mg C_l_pick.kp C_l_pick.b .nil pass0 (pa_cons (pv 0) (pa_cons pe_int pa_nil))) (fun _ _ => rfl))) (pa_cons (pe_slice sl_str (pv 3) (po_some pe_int) po_none) (pa_cons (pe_slice sl_str (pv 3) po_none (po_some (pe_un un_neg pe_int))) (pa_cons (pe_upper (pv 3)) pa_nil)))))) (pe_call C_l_pick.ok (hr.mono (by omega)) (by rfl) C_l_pick.mg C_l_pick.kp C_l_pick.b .nil pass0 (pa_cons (pv 0) (pa_cons pe_int pa_nil))) (fun _ _ => rfl)))))
      pss_nil)
    (pss_cons (ps_set (i := 4) sc_l_drawn.nd rfl (Or.inl rfl) pe_str)
    (pss_cons (ps_for PassesOwn.never rfl (pi_range1 (by rfl) T.z_range (pa_cons (pe_call C_l_pick.ok (hr.mono (by omega)) (by rfl) C_l_pick.mg C_l_pick.kp C_l_pick.b .nil pass0 (pa_cons (pv 0) (pa_cons pe_int pa_nil))) pa_nil)) (pg_name (i := 5) sc_l_drawn.nd rfl (Or.inl rfl))
      (pss_one (ps_set (i := 4) sc_l_drawn.nd rfl (Or.inl rfl) (pe_op op_add_str (pv 4) (pe_ix ix_str (pv 1) (pe_call C_l_pick.ok (hr.mono (by omega)) (by rfl) C_l_pick.mg C_l_pick.kp C_l_pick.b .nil pass0 (pa_cons (pv 0) (pa_cons (pe_ix ix_list (pe_lst (pa_cons pe_int (pa_cons pe_int pa_nil))) (pe_callTy call_int1 (by rfl) T.z_int (by decide +kernel) (pa_cons (pe_cut (pe_and (pe_cmpR op_eq (pv 5) pe_int (nomark _)) (pe_one (pe_cmpR op_gt (pe_call C_l_pick.ok (hr.mono (by omega)) (by rfl) C_l_pick.mg C_l_pick.kp C_l_pick.b .nil pass0 (pa_cons (pv 0) (pa_cons pe_int pa_nil))) pe_int (nomark _))))) pa_nil)) (fun _ _ => rfl)) pa_nil))) (fun _ _ => rfl))))))
    (C8.pss_cut (ps_if (pt_cut (PW.pt (pw_and (pt_cmpR op_ne (pv 4) pe_str (nomark _)) (pw_and1 (pt_cmpR op_eq (pe_call C_l_pick.ok (hr.mono (by omega)) (by rfl) C_l_pick.mg C_l_pick.kp C_l_pick.b .nil pass0 (pa_cons (pv 0) (pa_cons pe_int pa_nil))) pe_int (nomark _))))))
      (pss_cons (ps_set (i := 6) sc_l_drawn.nd rfl (Or.inl rfl) (pe_call C_l_pick.ok (hr.mono (by omega)) (by rfl) C_l_pick.mg C_l_pick.kp C_l_pick.b .nil pass0 (pa_cons (pv 0) (pa_cons (pe_callB call_len_str (by rfl) T.z_len (by decide +kernel) (pa_cons (pv 4) pa_nil)) pa_nil))))
      (pss_one (ps_set (i := 4) sc_l_drawn.nd rfl (Or.inl rfl) (pe_op op_add_str (pe_op op_add_str (pe_slice sl_str (pv 4) po_none (po_some (pv 6))) (pe_ix ix_str (pv 2) (pe_call C_l_pick.ok (hr.mono (by omega)) (by rfl) C_l_pick.mg C_l_pick.kp C_l_pick.b .nil pass0 (pa_cons (pv 0) (pa_cons (pe_callB call_len_str (by rfl) T.z_len (by decide +kernel) (pa_cons (pv 2) pa_nil)) pa_nil))) (fun _ _ => rfl))) (pe_slice sl_str (pv 4) (po_some (pe_op op_add (pv 6) pe_int)) po_none)))))
      pss_nil)
    (pss_one (ps_ret (pv 4))))))))), ?_⟩
  -- if pick(3) == 0
  refine ⟨_, rfl, p, q, 3, rfl, St, by decide, by decide, fun r1 H1 _ _ St1 _ => ⟨rfl, _, rfl, ?_⟩⟩
  refine ite2 (fun _ => ?_) (fun _ => ?_)
  · -- word = kept()[pick(42)]
    refine ⟨rfl, fun l H2 s2 nl el => ⟨_, rfl, p, q, 42, rfl, St1.keep s2, by decide, by decide, fun r2 H3 g0 g1 St3 B => ?_⟩⟩
    have lpq := St1.free nl
    obtain ⟨v, hv, hm⟩ := at_in (xs := keptV) (i := r2) g0 (by rw [List.length_map, kept_len]; exact g1)
    obtain ⟨wd, hwd, rfl⟩ := List.mem_map.mp hm
    obtain ⟨t1, t2, _⟩ := kept_tx hwd
    refine ⟨l, keptV, r2, _, rfl, rfl, SqL.of (B _ _ lpq.1 lpq.2 el), hv, ?_⟩
    -- the five
    refine ⟨_, rfl, _, rfl, _, rfl, _, rfl, p, q, 36, rfl, St3, by decide, by decide, fun r3 H4 g2 g3 St4 _ => ?_⟩
    obtain ⟨c, hc, hcm⟩ := atN_in (xs := SML.cps.toList) (i := r3) g2 (by rw [sml_len]; exact g3)
    refine ⟨SML, r3, c, rfl, rfl, Nat.le_trans sml_tx.1 (by decide), hc, wd, _, rfl, rfl, ?_, _, rfl, 1, rfl, wd, rfl, Nat.le_trans t1.1 (by decide), _, rfl, 1, rfl, _, rfl, wd, rfl, Nat.le_trans t1.1 (by decide), _, rfl, ⟨_, rfl⟩, wd, rfl, rfl, Nat.le_trans t1.1 (by decide), (by show 5 ≤ sizeLine; decide), fun t ht => ?_⟩
    · have h1 := t1.1
      show wd.length + 1 ≤ sizeLine
      exact small (by omega)
    refine ⟨_, rfl, p, q, 5, rfl, St4.keep (same_upd ht), by decide, by decide, fun r4 H5 g4 g5 St5 B5 => ?_⟩
    have tpq := St4.free ht
    obtain ⟨v, hv, hm⟩ := at_in (xs := [V.str wd, .str (wd ++ ⟨#[c]⟩), .str (cutS wd (some 1) none), .str (cutS wd none (some (-1))), .str (Txt.upper wd)]) (i := r4) g4 g5
    refine ⟨t, _, r4, v, rfl, rfl, SqL.of (B5 _ _ tpq.1 tpq.2 upd_same), hv, ?_⟩
    have all5 : ∃ z, v = .str z ∧ Txo z := by
      have w9 : Tx 1000 wd := tx_mono t1 (by decide)
      rcases List.mem_cons.mp hm with rfl | hm
      · exact ⟨_, rfl, w9⟩
      rcases List.mem_cons.mp hm with rfl | hm
      · exact ⟨_, rfl, tx_mono (tx_cat t1 (tx_one sml_tx.2 hcm)) (by decide)⟩
      rcases List.mem_cons.mp hm with rfl | hm
      · exact ⟨_, rfl, tx_cut w9 _ _⟩
      rcases List.mem_cons.mp hm with rfl | hm
      · exact ⟨_, rfl, tx_cut w9 _ _⟩
      rcases List.mem_cons.mp hm with rfl | hm
      · exact ⟨_, rfl, tx_mono t2 (by decide)⟩
      cases hm
    obtain ⟨z, rfl, hz⟩ := all5
    exact k z H5 hz St5
  · -- text grows
    refine ⟨_, rfl, p, q, 15, rfl, St1, by decide, by decide, fun r2 H2 g0 g1 St2 _ => ?_⟩
    refine ⟨r2, rfl, by omega, by omega, for_range (lo := 0) (n := r2.toNat) (fun i σ H' => ∃ (z : Str) (x6 : Option V), σ = [some (.ref p), some (.str SML), some (.str EVR), none, some (.str z), x6, none] ∧ Tx i z ∧ StOk H' p q) ⟨"", none, rfl, tx_nil, St2⟩ ?_ ?_⟩
    · rintro i σ H3 hi ⟨z, x6, rfl, tz, St3⟩
      refine ⟨_, rfl, _, rfl, _, rfl, (by show 2 ≤ sizeLine; decide), fun t ht => ?_⟩
      have tpq := St3.free ht
      refine ⟨fun v H' => ∃ b, v = .bl b ∧ StOk H' p q ∧ H' t = some (.lst [.int 36, .int 26]), ?_, ?_⟩
      · refine ⟨_, rfl, rfl, _, rfl, ?_⟩
        refine ite2 (fun _ => ?_) (fun _ => ⟨_, rfl, St3.keep (same_upd ht), upd_same⟩)
        refine ⟨_, rfl, p, q, 4, rfl, St3.keep (same_upd ht), by decide, by decide, fun r3 H4 _ _ St4 B => ⟨_, _, rfl, rfl, _, rfl, St4, B _ _ tpq.1 tpq.2 upd_same⟩⟩
      · rintro _ H4 ⟨b, rfl, St4, et⟩
        obtain ⟨m, m1, m2, e⟩ : ∃ m : Int, 1 ≤ m ∧ m ≤ 36 ∧ atI [V.int 36, V.int 26] (if b = true then 1 else 0) = some (.int m) := by
          cases b with
          | true => exact ⟨26, by decide, by decide, rfl⟩
          | false => exact ⟨36, by decide, by decide, rfl⟩
        refine .inr ⟨b, rfl, t, _, _, .int m, rfl, rfl, SqL.of et, e, p, q, m, rfl, St4, m1, by omega, fun r3 H5 g2 g3 St5 _ => ?_⟩
        obtain ⟨c, hc, hcm⟩ := atN_in (xs := SML.cps.toList) (i := r3) g2 (by rw [sml_len]; omega)
        have t1 := tx_one sml_tx.2 hcm
        refine ⟨SML, r3, c, rfl, rfl, Nat.le_trans sml_tx.1 (by decide), hc, z, _, rfl, rfl, ?_, _, some _, rfl, tx_cat tz t1, St5⟩
        have h1 := tz.1
        show z.length + 1 ≤ sizeLine
        exact small (by omega)
    · rintro σ H3 ⟨z, x6, rfl, tz, St3⟩
      have tz15 := tx_mono tz (show r2.toNat ≤ 20 by omega)
      -- if text != '' and pick(4) == 0
      refine ⟨fun σ' H' => ∃ (z : Str) (x7 : Option V), σ' = [some (.ref p), some (.str SML), some (.str EVR), none, some (.str z), x6, x7] ∧ Txo z ∧ StOk H' p q, ?_, ?_⟩
      · refine ⟨fun b H' => StOk H' p q ∧ (b = true → 1 ≤ z.length), ?_, ?_⟩
        · refine ⟨_, rfl, rfl, _, rfl, ?_⟩
          refine ite2 (fun ne => ?_) (fun _ => ⟨St3, fun h => nomatch h⟩)
          refine ⟨_, rfl, p, q, 4, rfl, St3, by decide, by decide, fun r3 H4 _ _ St4 _ => ⟨rfl, _, rfl, St4, fun _ => ?_⟩⟩
          refine Nat.pos_of_ne_zero fun z0 => ?_
          have e : z = "" := by
            refine Str.ext' (Array.toList_inj.mp ?_)
            have e1 : z.cps.toList = [] := List.eq_nil_of_length_eq_zero (by rw [Array.length_toList]; exact z0)
            rw [e1]
            decide +kernel
          rw [e] at ne
          have ne' : (!decide (V.str "" = V.str "")) = true := ne
          rw [decide_eq_true rfl] at ne'
          cases ne'
        · rintro b H4 ⟨St4, hb⟩
          cases b with
          | false => exact iteF ⟨z, none, rfl, tx_mono tz15 (by decide), St4⟩
          | true =>
            have l1 := hb rfl
            have l2 := tz15.1
            refine iteT ?_
            refine ⟨_, rfl, _, rfl, z, rfl, Nat.le_trans l2 (by decide), p, q, _, rfl, St4, by omega, by omega, fun r5 H5 g5 g6 St5 _ => ?_⟩
            refine ⟨_, rfl, _, rfl, r5, rfl, z, rfl, Nat.le_trans l2 (by decide), _, rfl, _, rfl, _, rfl, EVR, rfl, Nat.le_trans evr_tx.1 (by decide), p, q, 58, ?_, St5, by decide, by decide, fun r6 H6 g7 g8 St6 _ => ?_⟩
            · rw [evr_len]
              rfl
            obtain ⟨c, hc, hcm⟩ := atN_in (xs := EVR.cps.toList) (i := r6) g7 (by rw [len_tl, evr_len]; exact g8)
            have t1 := tx_one evr_tx.2 hcm
            have tA := tx_cat (tx_cut tz15 none (some r5)) t1
            have tB := tx_cut tz15 (some (r5 + 1)) none
            refine ⟨EVR, r6, c, rfl, rfl, Nat.le_trans evr_tx.1 (by decide), hc, _, _, rfl, rfl, ?_, _, rfl, _, rfl, r5, 1, rfl, rfl, _, rfl, z, rfl, Nat.le_trans l2 (by decide), _, _, rfl, rfl, ?_, _, _, rfl, tx_mono (tx_cat tA tB) (by decide), St6⟩
            · have h1 := (tx_cut tz15 none (some r5)).1
              show (cutS z none (some r5)).length + 1 ≤ sizeLine
              exact small (by omega)
            · exact Nat.le_trans (Nat.add_le_add tA.1 tB.1) (by decide)
      · rintro σ' H4 ⟨z, x7, rfl, tz, St4⟩
        exact ⟨_, rfl, k z H4 tz St4⟩
end
def spLaw (K : PySem.W.Frag) : Sp := fun vs H Q _ => ∃ (a : Addr) (ns : List Int), vs = [.ref a] ∧ SqL K H a (ns.map V.int) ∧ ns.length ≤ 63 ∧ ∀ H', Q (.bl true) H'
section
variable {P : Program} {w : World} {K : PySem.W.Frag} {mg : Str → Option Value} {base : Heap} {f : Addr} {fd : FuncData}
abbrev s_law : Stmt := topS 13
theorem sc_law : FnScope ["script", "state", "k", "text", "word"] ["script"] (defScope s_law) := ⟨rfl, rfl, rfl, by decide +kernel, rfl, by decide +kernel, by decide +kernel⟩

theorem ok_law (F : Fun K "law" "law" s_law f fd) (T : Txt K mg) (C_is_name : Callee P w K mg base 1 "is_name" ["text"] spName) (C_l_state : Callee P w K mg base 1 "_law_state" ["script"] (spState K)) (C_l_same : Callee P w K mg base 1 "_law_same" ["actual", "due"] (spSame K 1))
    (C_l_kept : Callee P w K mg base 1 "_law_kept" [] spKept) (C_l_drawn : Callee P w K mg base 2 "_law_drawn" ["state"] spDrawn) (C_l_due : Callee P w K mg base 2 "_law_due" ["text"] spDue) : FnOk P w K mg base CX0 3 f fd ["script"] (spLaw K) := by
  refine F.ok sc_law (fun vs H Q E h => ?_) (fun cdv A outer s H vs Q E hr h => ?_)
  · obtain ⟨a, ns, rfl, _⟩ := h
    rfl
  obtain ⟨a, ns, rfl, hS, hlen, k⟩ := h
  refine ⟨_, (pss_cons (ps_set (i := 1) sc_law.nd rfl (Or.inl rfl) (pe_call C_l_state.ok (hr.mono (by omega)) (by rfl) C_l_state.mg C_l_state.kp C_l_state.b .nil pass0 (pa_cons (pv 0) pa_nil)))
    (pss_cons (ps_for PassesOwn.never rfl (pi_range1 (by rfl) T.z_range (pa_cons (pe_op op_add pe_int (pe_callB (call_min2 rfl) (by rfl) T.z_min (by decide +kernel) (pa_cons pe_int (pa_cons (pe_callB call_len_seq (by rfl) T.z_len (by decide +kernel) (pa_cons (pv 0) pa_nil)) pa_nil)))) pa_nil)) (pg_name (i := 2) sc_law.nd rfl (Or.inl rfl))
      (pss_cons (ps_set (i := 3) sc_law.nd rfl (Or.inl rfl) (pe_call C_l_drawn.ok (hr.mono (by omega)) (by rfl) C_l_drawn.mg C_l_drawn.kp C_l_drawn.b .nil pass0 (pa_cons (pv 1) pa_nil)))
      (pss_one (ps_if (pt_not (pt_val (pe_call C_l_same.ok (hr.mono (by omega)) (by rfl) C_l_same.mg C_l_same.kp C_l_same.b .nil pass0 (pa_cons (pe_call C_is_name.ok (hr.mono (by omega)) (by rfl) C_is_name.mg C_is_name.kp C_is_name.b .nil pass0 (pa_cons (pv 3) pa_nil)) (pa_cons (pe_call C_l_due.ok (hr.mono (by omega)) (by rfl) C_l_due.mg C_l_due.kp C_l_due.b .nil pass0 (pa_cons (pv 3) pa_nil)) pa_nil)))))
        (pss_one (ps_ret pe_bl))
        pss_nil))))
    (pss_one (ps_ret (pe_cmpR (op_eqD hr.units) (pe_lc (own := [("word", 4)]) (g := gName 4)  rfl sc_law.nd (pi_list (pe_call0 C_l_kept.ok (hr.mono (by omega)) (by rfl) C_l_kept.mg C_l_kept.kp C_l_kept.b .nil pass0)) (blkOk_by (own := [("word", 4)]) (N := ["script", "state", "k", "text", "word"]) (sc := defScope s_law) (by decide +kernel)) (fun _ _ _ _ _ => pg_name (i := 4) sc_law.nd rfl (Or.inl rfl)) (fun _ _ _ _ _ => (pts_one (pt_cmpR op_isnot_bl (pe_call C_is_name.ok (hr.mono (by omega)) (by rfl) C_is_name.mg C_is_name.kp C_is_name.b .nil pass0 (pa_cons (pv 4) pa_nil)) pe_bl (nomark _)))) (fun _ _ _ _ _ => (pv 4))) (pe_lst pa_nil) (nomark _)))))), ?_⟩
  refine ⟨_, rfl, a, ns, rfl, hS, fun p q H1 _ _ s1 St => ?_⟩
  refine ⟨_, rfl, a, _, rfl, .inl (s1.seq hS), _, _, rfl, 3, _, rfl, rfl, _, rfl, ?_, ?_, for_range (lo := 0) (fun i σ H' => ∃ x1 x2, σ = [some (.ref a), some (.ref p), x1, x2, none] ∧ StOk H' p q) ⟨none, none, rfl, St⟩ ?_ ?_⟩
  · rw [List.length_map]
    split <;> omega
  · rw [List.length_map]
    split <;> omega
  · rintro i σ H2 hi ⟨x1, x2, rfl, St2⟩
    refine ⟨_, rfl, p, q, rfl, St2, fun z H3 tz St3 => ?_⟩
    refine ⟨_, rfl, z, rfl, tz.1, fun H4 s4 => ⟨_, rfl, z, rfl, tz, fun H5 s5 => ?_⟩⟩
    exact ⟨_, _, .bool (nm z), rfl, .bl _, .bl _, trivial, fun H6 s6 => ⟨_, rfl, ifF rfl ⟨_, _, rfl, ((St3.keep s4).keep s5).keep s6⟩⟩⟩
  · rintro σ H2 ⟨x1, x2, rfl, St2⟩
    refine ⟨rfl, fun l H3 s3 nl el => ⟨l, rfl, ⟨_, SqL.of el⟩, fun D hD => ?_⟩⟩
    refine lc_fm (walk_list (K := K) (a := l) (xs := keptV)) (by decide +kernel) hD (fun _ => false) (fun _ => .non) (fun H4 s4 => s4.seq (SqL.of el)) ?_ ?_
    · rintro i x H4 H5 NT NF hi s4 ⟨rfl, hx⟩ yF _
      obtain ⟨wd, hwd, rfl⟩ := List.mem_map.mp (List.mem_of_getElem? hx)
      obtain ⟨t1, _, t3⟩ := kept_tx hwd
      refine ⟨rfl, _, rfl, wd, rfl, Nat.le_trans t1.1 (by decide), fun H6 s6 => ⟨_, _, rfl, rfl, _, rfl, ?_⟩⟩
      rw [t3]
      exact iteF (yF H6 s6 rfl)
    · intro H4 s4 e4
      have e5 : fm keptV.length (fun _ => false) (fun _ => V.non) = [] := by decide +kernel
      rw [e5] at e4
      refine ⟨Nat.zero_le _, fun u hu => ?_⟩
      have s5 := same_upd (o := .lst []) hu
      exact ⟨.list [], .list [], .lst (SqL.of (s5 _ _ e4)) .nil, .lst (SqL.of upd_same) .nil, rfl, rfl, k _⟩
theorem ok_law_all (D_law : DefAt K mg "law" s_law ["script"]) (T : Txt K mg) (D_name : DefAt K mg "is_name" s_is_name ["text"]) (D_state : DefAt K mg "_law_state" s_l_state ["script"]) (D_pick : DefAt K mg "_law_pick" s_l_pick ["state", "many"])
    (D_same : DefAt K mg "_law_same" s_l_same ["actual", "due"]) (D_kept : DefAt K mg "_law_kept" s_l_kept []) (D_drawn : DefAt K mg "_law_drawn" s_l_drawn ["state"]) (D_due : DefAt K mg "_law_due" s_l_due ["text"]) : FnOk P w K mg base CX0 3 D_law.f D_law.fd ["script"] (spLaw K) := by
  have C0 : Callee P w K mg base 0 "_law_same" ["actual", "due"] (spSame K 0) := D_same.callee (fn_false fun vs H Q E h => by obtain ⟨x, y, d, _, _, _, h, _⟩ := h; exact h)
  have CK : Callee P w K mg base 1 "_law_kept" [] spKept := D_kept.callee (ok_kept D_kept.F T)
  have CP : Callee P w K mg base 1 "_law_pick" ["state", "many"] spPick := D_pick.callee (ok_pick D_pick.F T)
  exact ok_law D_law.F T (D_name.callee (ok_name D_name.F T)) (D_state.callee (ok_state D_state.F T)) (D_same.callee (ok_same D_same.F T C0)) CK (D_drawn.callee (ok_drawn D_drawn.F T CK CP)) (D_due.callee (ok_due D_due.F T CK))
end
theorem rel_abs {u : Value} {x : V} (h : absV u = some x) : RelV x u := by
  cases u <;> simp only [absV, Option.some.injEq, reduceCtorEq] at h <;> subst h <;> first | rfl | exact ⟨_, rfl⟩
theorem vals_abs : ∀ {us : List Value} {xs : List V}, us.map absV = xs.map some → Vals xs us
  | [], [], _ => .nil
  | [], _ :: _, h => nomatch h
  | _ :: _, [], h => nomatch h
  | u :: us, x :: xs, h => by
    rw [List.map_cons, List.map_cons] at h
    injection h with h1 h2
    exact .cons (rel_abs h1) (vals_abs h2)
theorem tup_k {K : PySem.W.Frag} {kw : Addr} {od : Option Addr} {its : Array Value} {n : Nat} {sl : Array (Option Value)} {xs : List V} (l : K.lookup kw = some ⟨.type "tuple", od, .seq its n, sl⟩) (v : its.toList.map absV = xs.map some) (z : its.size ≤ 1000) (H : Hp) : SqT K H kw xs :=
  .inr ⟨_, its, n, l, rfl, rfl, small z, vals_abs v⟩
theorem all_mk {l : PySem.W.OpenLaw} {w : World} {K : PySem.W.Frag} {h : Heap} {mg : Str → Option Value} {fa f0 f1 f2 f3 f4 f5 f6 f7 : Addr} {tk1 tk2 tk3 : Tok} {kw : Addr} {odw : Option Addr} {itw : Array Value} {nw : Nat} {slw : Array (Option Value)} (X : K.In h) (G : h.Ns mainGlobals mg) (hfa : mg "law" = some (.ref fa))
    {od0 an0 od1 an1 od2 an2 od3 an3 od4 an4 od5 an5 od6 an6 od7 an7 : Option Addr} {sl0 sl1 sl2 sl3 sl4 sl5 sl6 sl7 : Array (Option Value)} {oc0 kV0 dc0 pm0 cd0 ct0 oc1 kV1 dc1 pm1 cd1 ct1 oc2 kV2 dc2 pm2 cd2 ct2 oc3 kV3 dc3 pm3 cd3 ct3 oc4 kV4 dc4 pm4 cd4 ct4 oc5 kV5 dc5 pm5 cd5 ct5 oc6 kV6 dc6 pm6 cd6 ct6 oc7 kV7 dc7 pm7 cd7 ct7 : Value}
    (a0 : PySem.W.nsIn K mainGlobals "is_name" = some (some (.ref f0))) (l0 : K.lookup f0 = some ⟨oc0, od0, .func (PySem.W.fnOf "is_name" "is_name" (defArgs s_is_name) (defBody s_is_name) (defScope s_is_name) .none kV0 dc0 pm0 an0 cd0 ct0), sl0⟩) (c0 : PySem.W.codeIn K cd0 "is_name" = true) (k0 : PySem.W.keepIn K (.ref f0) = true)
    (a1 : PySem.W.nsIn K mainGlobals "_law_state" = some (some (.ref f1))) (l1 : K.lookup f1 = some ⟨oc1, od1, .func (PySem.W.fnOf "_law_state" "_law_state" (defArgs s_l_state) (defBody s_l_state) (defScope s_l_state) .none kV1 dc1 pm1 an1 cd1 ct1), sl1⟩) (c1 : PySem.W.codeIn K cd1 "_law_state" = true) (k1 : PySem.W.keepIn K (.ref f1) = true)
    (a2 : PySem.W.nsIn K mainGlobals "_law_pick" = some (some (.ref f2))) (l2 : K.lookup f2 = some ⟨oc2, od2, .func (PySem.W.fnOf "_law_pick" "_law_pick" (defArgs s_l_pick) (defBody s_l_pick) (defScope s_l_pick) .none kV2 dc2 pm2 an2 cd2 ct2), sl2⟩) (c2 : PySem.W.codeIn K cd2 "_law_pick" = true) (k2 : PySem.W.keepIn K (.ref f2) = true)
    (a3 : PySem.W.nsIn K mainGlobals "_law_same" = some (some (.ref f3))) (l3 : K.lookup f3 = some ⟨oc3, od3, .func (PySem.W.fnOf "_law_same" "_law_same" (defArgs s_l_same) (defBody s_l_same) (defScope s_l_same) .none kV3 dc3 pm3 an3 cd3 ct3), sl3⟩) (c3 : PySem.W.codeIn K cd3 "_law_same" = true) (k3 : PySem.W.keepIn K (.ref f3) = true)
    (a4 : PySem.W.nsIn K mainGlobals "_law_kept" = some (some (.ref f4))) (l4 : K.lookup f4 = some ⟨oc4, od4, .func (PySem.W.fnOf "_law_kept" "_law_kept" (defArgs s_l_kept) (defBody s_l_kept) (defScope s_l_kept) .none kV4 dc4 pm4 an4 cd4 ct4), sl4⟩) (c4 : PySem.W.codeIn K cd4 "_law_kept" = true) (k4 : PySem.W.keepIn K (.ref f4) = true)
    (a5 : PySem.W.nsIn K mainGlobals "_law_drawn" = some (some (.ref f5))) (l5 : K.lookup f5 = some ⟨oc5, od5, .func (PySem.W.fnOf "_law_drawn" "_law_drawn" (defArgs s_l_drawn) (defBody s_l_drawn) (defScope s_l_drawn) .none kV5 dc5 pm5 an5 cd5 ct5), sl5⟩) (c5 : PySem.W.codeIn K cd5 "_law_drawn" = true) (k5 : PySem.W.keepIn K (.ref f5) = true)
    (a6 : PySem.W.nsIn K mainGlobals "_law_due" = some (some (.ref f6))) (l6 : K.lookup f6 = some ⟨oc6, od6, .func (PySem.W.fnOf "_law_due" "_law_due" (defArgs s_l_due) (defBody s_l_due) (defScope s_l_due) .none kV6 dc6 pm6 an6 cd6 ct6), sl6⟩) (c6 : PySem.W.codeIn K cd6 "_law_due" = true) (k6 : PySem.W.keepIn K (.ref f6) = true)
    (a7 : PySem.W.nsIn K mainGlobals "law" = some (some (.ref f7))) (l7 : K.lookup f7 = some ⟨oc7, od7, .func (PySem.W.fnOf "law" "law" (defArgs s_law) (defBody s_law) (defScope s_law) .none kV7 dc7 pm7 an7 cd7 ct7), sl7⟩) (c7 : PySem.W.codeIn K cd7 "law" = true) (k7 : PySem.W.keepIn K (.ref f7) = true)
    (z_len : PySem.W.nsIn K mainGlobals "len" = some none)
    (z_all : PySem.W.nsIn K mainGlobals "all" = some none)
    (z_list : PySem.W.nsIn K mainGlobals "list" = some none)
    (z_int : PySem.W.nsIn K mainGlobals "int" = some none)
    (z_isinstance : PySem.W.nsIn K mainGlobals "isinstance" = some none)
    (z_bool : PySem.W.nsIn K mainGlobals "bool" = some none)
    (z_str : PySem.W.nsIn K mainGlobals "str" = some none)
    (z_tuple : PySem.W.nsIn K mainGlobals "tuple" = some none)
    (z_range : PySem.W.nsIn K mainGlobals "range" = some none)
    (z_min : PySem.W.nsIn K mainGlobals "min" = some none)
    (a_let : PySem.W.nsIn K mainGlobals "LETTERS" = some (some (.str "abcdefghijklmnopqrstuvwxyz" tk1)))
    (a_fig : PySem.W.nsIn K mainGlobals "FIGURES" = some (some (.str "0123456789" tk2)))
    (a_most : PySem.W.nsIn K mainGlobals "MOST_SIGNS" = some (some (.int 12 tk3)))
    (a_kw : PySem.W.nsIn K mainGlobals "KEPT_WORDS" = some (some (.ref kw)))
    (l_kw : K.lookup kw = some ⟨.type "tuple", odw, .seq itw nw, slw⟩)
    (v_kw : itw.toList.map absV = keptV.map some)
    (n_kw : itw.size ≤ 1000)
    : ∃ fd : FuncData, (∀ (s : Shared) (v : Value), BindsTo s fd ⟨[v], []⟩ [("script", v)]) ∧ ∀ base : Heap, K.In base → base.Ns mainGlobals mg → FnOk l.prog w K mg base CX0 3 fa fd ["script"] (spLaw K) := by
  have e := hfa.symm.trans (PySem.W.mg_of X G a7)
  cases e
  have T : Txt K mg := ⟨PySem.W.mg_none_of X G z_len, PySem.W.mg_none_of X G z_all, PySem.W.mg_none_of X G z_list, PySem.W.mg_none_of X G z_int, PySem.W.mg_none_of X G z_isinstance, PySem.W.mg_none_of X G z_bool, PySem.W.mg_none_of X G z_str, PySem.W.mg_none_of X G z_tuple, PySem.W.mg_none_of X G z_range, PySem.W.mg_none_of X G z_min, ⟨_, PySem.W.mg_of X G a_let, ⟨_, rfl⟩⟩, ⟨_, PySem.W.mg_of X G a_fig, ⟨_, rfl⟩⟩, ⟨_, PySem.W.mg_of X G a_most, ⟨_, rfl⟩⟩, ⟨kw, PySem.W.mg_of X G a_kw, tup_k l_kw v_kw n_kw⟩⟩
  have F0 := fun_mk (st := s_is_name) l0 c0 k0
  have b0 := F0.binds (ps := ["text"]) fun _ _ _ _ _ _ us hl => match us, hl with | [_], _ => rfl
  let D0 : DefAt K mg "is_name" s_is_name ["text"] := ⟨f0, _, F0, PySem.W.mg_of X G a0, b0⟩
  have F1 := fun_mk (st := s_l_state) l1 c1 k1
  have b1 := F1.binds (ps := ["script"]) fun _ _ _ _ _ _ us hl => match us, hl with | [_], _ => rfl
  let D1 : DefAt K mg "_law_state" s_l_state ["script"] := ⟨f1, _, F1, PySem.W.mg_of X G a1, b1⟩
  have F2 := fun_mk (st := s_l_pick) l2 c2 k2
  have b2 := F2.binds (ps := ["state", "many"]) fun _ _ _ _ _ _ us hl => match us, hl with | [_, _], _ => rfl
  let D2 : DefAt K mg "_law_pick" s_l_pick ["state", "many"] := ⟨f2, _, F2, PySem.W.mg_of X G a2, b2⟩
  have F3 := fun_mk (st := s_l_same) l3 c3 k3
  have b3 := F3.binds (ps := ["actual", "due"]) fun _ _ _ _ _ _ us hl => match us, hl with | [_, _], _ => rfl
  let D3 : DefAt K mg "_law_same" s_l_same ["actual", "due"] := ⟨f3, _, F3, PySem.W.mg_of X G a3, b3⟩
  have F4 := fun_mk (st := s_l_kept) l4 c4 k4
  have b4 := F4.binds (ps := []) fun _ _ _ _ _ _ us hl => match us, hl with | [], _ => rfl
  let D4 : DefAt K mg "_law_kept" s_l_kept [] := ⟨f4, _, F4, PySem.W.mg_of X G a4, b4⟩
  have F5 := fun_mk (st := s_l_drawn) l5 c5 k5
  have b5 := F5.binds (ps := ["state"]) fun _ _ _ _ _ _ us hl => match us, hl with | [_], _ => rfl
  let D5 : DefAt K mg "_law_drawn" s_l_drawn ["state"] := ⟨f5, _, F5, PySem.W.mg_of X G a5, b5⟩
  have F6 := fun_mk (st := s_l_due) l6 c6 k6
  have b6 := F6.binds (ps := ["text"]) fun _ _ _ _ _ _ us hl => match us, hl with | [_], _ => rfl
  let D6 : DefAt K mg "_law_due" s_l_due ["text"] := ⟨f6, _, F6, PySem.W.mg_of X G a6, b6⟩
  have F7 := fun_mk (st := s_law) l7 c7 k7
  have b7 := F7.binds (ps := ["script"]) fun _ _ _ _ _ _ us hl => match us, hl with | [_], _ => rfl
  let D7 : DefAt K mg "law" s_law ["script"] := ⟨fa, _, F7, PySem.W.mg_of X G a7, b7⟩
  exact ⟨PySem.W.fnOf "law" "law" (defArgs s_law) (defBody s_law) (defScope s_law) .none kV7 dc7 pm7 an7 cd7 ct7, fun s v => .of_eq rfl, fun base _ _ => ok_law_all D7 T D0 D1 D2 D3 D4 D5 D6⟩
end My
open PySem PySem.W PyProof.Rows
set_option maxHeartbeats 0 in
theorem PySem.Challenge.cw_nobodyspeaks_k03_names_holds : PySem.Challenge.rw_nobodyspeaks_k03_names.Holds := by
  w_on; o_law; k_head; (case hw => w_witness2)
  k_fill
  refine L2.walk_of (l := PySem.Challenge.rw_nobodyspeaks_k03_names) (n := 63) (k := 3) (x := "script") (CX := fun _ => L2.CX0) (sp := fun w => My.spLaw _) rfl (by decide) rfl ⟨rfl, by decide, by decide⟩ (fun w h Y => PySem.W.kIn_of Y) ?F (fun _ _ a ns hl _ hS => ⟨a, ns, rfl, hS, hl, fun _ => rfl⟩) (fun _ _ _ _ _ h => h)
  case F =>
    intro w mg fa h KX G hmg
    refine' My.all_mk KX G hmg ?a0 ?l0 ?c0 ?k0 ?a1 ?l1 ?c1 ?k1 ?a2 ?l2 ?c2 ?k2 ?a3 ?l3 ?c3 ?k3 ?a4 ?l4 ?c4 ?k4 ?a5 ?l5 ?c5 ?k5 ?a6 ?l6 ?c6 ?k6 ?a7 ?l7 ?c7 ?k7 ?z_len ?z_all ?z_list ?z_int ?z_isinstance ?z_bool ?z_str ?z_tuple ?z_range ?z_min ?a_let ?a_fig ?a_most ?a_kw ?l_kw ?v_kw ?n_kw
    (case a0 => k_is)
    (case l0 => k_is)
    (case c0 => k_is)
    (case k0 => k_is)
    (case a1 => k_is)
    (case l1 => k_is)
    (case c1 => k_is)
    (case k1 => k_is)
    (case a2 => k_is)
    (case l2 => k_is)
    (case c2 => k_is)
    (case k2 => k_is)
    (case a3 => k_is)
    (case l3 => k_is)
    (case c3 => k_is)
    (case k3 => k_is)
    (case a4 => k_is)
    (case l4 => k_is)
    (case c4 => k_is)
    (case k4 => k_is)
    (case a5 => k_is)
    (case l5 => k_is)
    (case c5 => k_is)
    (case k5 => k_is)
    (case a6 => k_is)
    (case l6 => k_is)
    (case c6 => k_is)
    (case k6 => k_is)
    (case a7 => k_is)
    (case l7 => k_is)
    (case c7 => k_is)
    (case k7 => k_is)
    (case z_len => k_is)
    (case z_all => k_is)
    (case z_list => k_is)
    (case z_int => k_is)
    (case z_isinstance => k_is)
    (case z_bool => k_is)
    (case z_str => k_is)
    (case z_tuple => k_is)
    (case z_range => k_is)
    (case z_min => k_is)
    (case a_let => k_is)
    (case a_fig => k_is)
    (case a_most => k_is)
    (case a_kw => k_is)
    (case l_kw => k_is)
    (case v_kw => decide +kernel)
    (case n_kw => decide +kernel)

