import PyProof.Rows.All
import Wide.All
import OpenK.AllK
import Wide.FinOn
import HandS.ForMost
import HandS.Codes
import HandS.IsInst
import HandS.WideBits
import HandS.TupAny
import HandS.Walk
import PySem.Challenge.RW_nobodyspeaks_k37_hits_and_first_lines
set_option Elab.async false
set_option linter.all false
set_option maxRecDepth 100000
set_option maxHeartbeats 4000000
namespace My
open PySem PySem.Spec PyProof.Rows L2
def topS (i : Nat) : Stmt := PySem.Challenge.pw_nobodyspeaks_k37_hits_and_first_lines.main.body.getD i (.Pass ⟨0, 0, 0, 0⟩)
/-! ### heaps, defs -/
theorem same_upd {H : Hp} {p : Addr} {o : HO} (h : H p = none) : Same H (upd H p o) := fun b x e => by
  rw [upd_ne (ne_of_none e h)]
  exact e
/-- all that was tracked is as it was, but what stands at p and at q -/
def But (p q : Addr) (H H' : Hp) : Prop := ∀ b o, b ≠ p → b ≠ q → H b = some o → H' b = some o
theorem But.trans {p q : Addr} {H H1 H2 : Hp} (a : But p q H H1) (b : But p q H1 H2) : But p q H H2 := fun c o h1 h2 h => b c o h1 h2 (a c o h1 h2 h)
theorem But.of {p q : Addr} {H H1 : Hp} (a : Same H H1) : But p q H H1 := fun c o _ _ h => a c o h
theorem But.refl {p q : Addr} (H : Hp) : But p q H H := fun c o _ _ h => h
theorem small {n : Nat} (h : n ≤ 1000) : n ≤ sizeLine := Nat.le_of_lt (small1000 h)

structure DefAt (K : PySem.W.Frag) (mg : Str → Option Value) (x : Str) (st : Stmt) (ps : List Str) where
  f : Addr
  fd : FuncData
  F : Fun K x x st f fd
  m : mg x = some (.ref f)
  b : Binds K fd ps []
structure Callee (P : Program) (w : World) (K : PySem.W.Frag) (mg : Str → Option Value) (base : Heap) (k : Nat) (x : Str) (ps : List Str) (sp : Sp) where
  f : Addr
  fd : FuncData
  ok : FnOk P w K mg base CX0 k f fd ps sp
  mg : mg x = some (.ref f)
  kp : PySem.W.keepIn K (.ref f) = true
  b : Binds K fd ps []
def DefAt.callee {P : Program} {w : World} {K : PySem.W.Frag} {mg : Str → Option Value} {base : Heap} {k : Nat} {x : Str} {st : Stmt} {ps : List Str} {sp : Sp} (D : DefAt K mg x st ps) (ok : FnOk P w K mg base CX0 k D.f D.fd ps sp) : Callee P w K mg base k x ps sp :=
  ⟨D.f, D.fd, ok, D.m, D.F.kp, D.b⟩
theorem fn_false {P : Program} {w : World} {K : PySem.W.Frag} {mg : Str → Option Value} {base : Heap} {k : Nat} {f : Addr} {fd : FuncData} {ps : List Str} {sp : Sp} (no : ∀ vs H Q E, ¬ sp vs H Q E) : FnOk P w K mg base CX0 k f fd ps sp :=
  ⟨fun vs H Q E h => absurd h (no vs H Q E), fun A outer s H args us vs Q E _ _ _ _ h => absurd h (no vs H Q E)⟩

/-! ### a word between an expression and what follows -/
section
variable {X : Cx} {e : Expr}
def tECut (t : TE) : TE := fun σ H Q => ∃ Mid : VK, t σ H Mid ∧ ∀ v H', Mid v H' → Q v H'
theorem pe_cut {t : TE} (h : PE X e t) : PE X e (tECut t) := by
  refine ⟨fun pins s σ H Q I q => ?_⟩
  obtain ⟨Mid, q1, q2⟩ := q
  exact thn (h.run pins s σ H Mid I q1) fun u s' ⟨v, H', I', r, z⟩ => ⟨v, H', I', r, q2 v H' z⟩
def tTCut (t : TT) : TT := fun σ H Q => ∃ Mid : Bool → Hp → Prop, t σ H Mid ∧ ∀ b H', Mid b H' → Q b H'
theorem pt_cut {t : TT} (h : PT X e t) : PT X e (tTCut t) := by
  refine ⟨fun pins s σ H Q I q => ?_⟩
  obtain ⟨Mid, q1, q2⟩ := q
  exact thn (h.run pins s σ H Mid I q1) fun b s' ⟨H', I', z⟩ => ⟨H', I', q2 b H' z⟩
end
/-! ### rules told of a K (within comprehensions) -/
section
variable {X : Cx} {K : PySem.W.Frag}
def tTruth (K : PySem.W.Frag) (ta : TE) : TT := fun σ H Q => ta σ H fun x H' => ∃ k, TruV K x H' k ∧ Q k H'
theorem pt_truthK {a : Expr} {ta : TE} (K : PySem.W.Frag) (h : X.K = K) (ha : PE X a ta) (he : ∀ whole, isTrue a X.env whole = (do let v ← whole; standAt a.pos; holding [v] (truthy v))) : PT X a (tTruth K ta) := by
  subst h
  exact pt_truth ha he
theorem op_in_seqK (K : PySem.W.Frag) (h : X.K = K) : OpR X (compareOp .In) (rIn K false) := by
  subst h
  exact op_in_seq
theorem op_notIn_seqK (K : PySem.W.Frag) (h : X.K = K) : OpR X (compareOp .NotIn) (rIn K true) := by
  subst h
  exact op_notIn_seq
theorem ix_listK (K : PySem.W.Frag) (h : X.K = K) : IxR X (rIxL K) := by
  subst h
  exact ix_list
theorem ix_tupK (K : PySem.W.Frag) (h : X.K = K) : IxR X (rIxT K) := by
  subst h
  exact ix_tup
theorem op_eqDK (K : PySem.W.Frag) (h : X.K = K) (hu : X.A.units + 64 < cLine) : OpR X (compareOp .Eq) (rEqD K) := by
  subst h
  exact op_eqD hu
theorem op_neDK (K : PySem.W.Frag) (h : X.K = K) (hu : X.A.units + 64 < cLine) : OpR X (compareOp .NotEq) (rNeD K) := by
  subst h
  exact op_neD hu
end
theorem canLay_ints (ns : List Int) : PyData.canLayAll0 (ns.map PyData.int) = true := by
  induction ns with
  | nil => rfl
  | cons n r ih =>
    show (PyData.canLay0 (.int n) && PyData.canLayAll0 (r.map PyData.int)) = true
    rw [ih] <;> rfl
theorem depth_ints (ns : List Int) : PyData.depthAll (ns.map PyData.int) = 0 := by
  induction ns with
  | nil => rfl
  | cons n r ih =>
    show max (PyData.depth (.int n)) (PyData.depthAll (r.map PyData.int)) = 0
    rw [ih] <;> rfl
theorem shaped_ints (ns : List Int) : SeqAt.shaped (.list (ns.map PyData.int)) = true := by
  unfold SeqAt.shaped
  have h1 : PyData.canLay0 (.list (ns.map PyData.int)) = true := canLay_ints ns
  have h2 : PyData.depth (.list (ns.map PyData.int)) = 1 := by
    show PyData.depthAll (ns.map PyData.int) + 1 = 1
    rw [depth_ints]
  rw [h1, h2] <;> rfl
/-! ### data made of tuples -/
/-- tuples stay -/
def Tu (H H' : Hp) : Prop := ∀ b xs, H b = some (.tup xs) → H' b = some (.tup xs)
theorem Tu.refl (H : Hp) : Tu H H := fun _ _ h => h
theorem Tu.of {H H' : Hp} (e : Same H H') : Tu H H' := fun _ _ h => e _ _ h
theorem Tu.trans {H H1 H2 : Hp} (a : Tu H H1) (b : Tu H1 H2) : Tu H H2 := fun c xs h => b c xs (a c xs h)
theorem Tu.upd {H : Hp} {p : Addr} {o : HO} (h : ∀ xs, H p ≠ some (.tup xs)) : Tu H (upd H p o) := fun b xs e => by
  by_cases c : b = p
  · subst c
    exact absurd e (h xs)
  · rw [upd_ne c]
    exact e
mutual
inductive Pd (H : Hp) : V → PyData → Prop
  | non : Pd H .non .none
  | bl (b : Bool) : Pd H (.bl b) (.bool b)
  | int (i : Int) : Pd H (.int i) (.int i)
  | str (z : Str) : Pd H (.str z) (.str z)
  | tup {a : Addr} {xs : List V} {ds : List PyData} : H a = some (.tup xs) → PdAll H xs ds → Pd H (.ref a) (.tuple ds)
inductive PdAll (H : Hp) : List V → List PyData → Prop
  | nil : PdAll H [] []
  | cons {v : V} {d : PyData} {vs : List V} {ds : List PyData} : Pd H v d → PdAll H vs ds → PdAll H (v :: vs) (d :: ds)
end
mutual
theorem Pd.go {H H' : Hp} (e : Tu H H') : ∀ {v : V} {d : PyData}, Pd H v d → Pd H' v d
  | _, _, .non => .non
  | _, _, .bl b => .bl b
  | _, _, .int i => .int i
  | _, _, .str x => .str x
  | _, _, .tup h t => .tup (e _ _ h) (PdAll.go e t)
theorem PdAll.go {H H' : Hp} (e : Tu H H') : ∀ {vs : List V} {ds : List PyData}, PdAll H vs ds → PdAll H' vs ds
  | _, _, .nil => .nil
  | _, _, .cons h t => .cons (Pd.go e h) (PdAll.go e t)
end
mutual
theorem Pd.dp {K : PySem.W.Frag} {H : Hp} : ∀ {v : V} {d : PyData}, Pd H v d → Dp K H v d
  | _, _, .non => .non
  | _, _, .bl b => .bl b
  | _, _, .int i => .int i
  | _, _, .str x => .str x
  | _, _, .tup h t => .tup (SqT.of h) (PdAll.dp t)
theorem PdAll.dp {K : PySem.W.Frag} {H : Hp} : ∀ {vs : List V} {ds : List PyData}, PdAll H vs ds → DpAll K H vs ds
  | _, _, .nil => .nil
  | _, _, .cons h t => .cons (Pd.dp h) (PdAll.dp t)
end
theorem PdAll.len {H : Hp} : ∀ {vs : List V} {ds : List PyData}, PdAll H vs ds → vs.length = ds.length
  | _, _, .nil => rfl
  | _, _, .cons _ t => congrArg (· + 1) (PdAll.len t)
theorem PdAll.at {H : Hp} : ∀ {vs : List V} {ds : List PyData} {i : Nat} {v : V}, PdAll H vs ds → vs[i]? = some v → ∃ d, ds[i]? = some d ∧ Pd H v d
  | _, _, _, _, .nil, e => by simp at e
  | _, _, 0, _, .cons h _, e => by
    simp at e
    subst e
    exact ⟨_, rfl, h⟩
  | _, _, i + 1, d, .cons _ t, e => by
    obtain ⟨v, h1, h2⟩ := PdAll.at (i := i) (v := d) t (by simpa using e)
    exact ⟨v, by simpa using h1, h2⟩
theorem PdAll.app {H : Hp} : ∀ {vs : List V} {ds : List PyData} {ws : List V} {es : List PyData}, PdAll H vs ds → PdAll H ws es → PdAll H (vs ++ ws) (ds ++ es)
  | _, _, _, _, .nil, u => u
  | _, _, _, _, .cons h t, u => .cons h (PdAll.app t u)
theorem PdAll.ints {H : Hp} : ∀ ns : List Int, PdAll H (ns.map V.int) (ns.map PyData.int)
  | [] => .nil
  | n :: r => .cons (.int n) (PdAll.ints r)
theorem Pd.inv {H : Hp} {v : V} {ds : List PyData} (h : Pd H v (.tuple ds)) : ∃ a xs, v = .ref a ∧ H a = some (.tup xs) ∧ PdAll H xs ds := by
  cases h with
  | tup h t => exact ⟨_, _, rfl, h, t⟩
theorem Pd.int_inv {H : Hp} {v : V} {i : Int} (h : Pd H v (.int i)) : v = .int i := by
  cases h
  rfl
theorem Pd.bl_inv {H : Hp} {v : V} {b : Bool} (h : Pd H v (.bool b)) : v = .bl b := by
  cases h
  rfl
theorem Pd.non_inv {H : Hp} {v : V} (h : Pd H v .none) : v = .non := by
  cases h
  rfl
theorem PdAll.inv {H : Hp} {vs : List V} {d : PyData} {ds : List PyData} (h : PdAll H vs (d :: ds)) : ∃ v r, vs = v :: r ∧ Pd H v d ∧ PdAll H r ds := by
  cases h with
  | cons h t => exact ⟨_, _, rfl, h, t⟩
theorem PdAll.nil_inv {H : Hp} {vs : List V} (h : PdAll H vs []) : vs = [] := by
  cases h
  rfl
theorem PdAll.ints_inv {H : Hp} : ∀ {ns : List Int} {vs : List V}, PdAll H vs (ns.map PyData.int) → vs = ns.map V.int
  | [], _, h => h.nil_inv
  | n :: r, _, h => by
    obtain ⟨v, t, rfl, h1, h2⟩ := PdAll.inv h
    rw [h1.int_inv, PdAll.ints_inv h2]
    rfl
theorem eqv_ints : ∀ xs ys : List Int, PyData.eqvAll (xs.map PyData.int) (ys.map PyData.int) = decide (xs = ys)
  | [], [] => rfl
  | [], y :: ys => rfl
  | x :: xs, [] => rfl
  | x :: xs, y :: ys => by
    show (x == y && PyData.eqvAll (xs.map PyData.int) (ys.map PyData.int)) = _
    rw [eqv_ints xs ys, Bool.beq_eq_decide_eq, ← Bool.decide_and]
    exact decide_eq_decide.mpr (by simp)
theorem ifF {b : Bool} {A B : Prop} (hb : b = false) (h : B) : if b = true then A else B := by
  subst hb
  exact iteF h
theorem ifT {b : Bool} {A B : Prop} (hb : b = true) (h : A) : if b = true then A else B := by
  subst hb
  exact iteT h
theorem dI (a b : Int) : decide (V.int a = V.int b) = decide (a = b) := by
  rw [dec_int, Bool.beq_eq_decide_eq]
theorem dB (a b : Bool) : decide (V.bl a = V.bl b) = decide (a = b) := by
  rw [dec_bl]
  cases a <;> cases b <;> rfl
/-- an item at a place in bounds -/
theorem at_in {xs : List V} {i : Int} (h0 : 0 ≤ i) (h1 : i < (xs.length : Int)) : ∃ v, atI xs i = some v ∧ v ∈ xs := by
  have h2 : i.toNat < xs.length := by omega
  have e : ((i.toNat : Nat) : Int) = i := by omega
  have q := atI_nat (List.getElem?_eq_getElem h2)
  rw [e] at q
  exact ⟨_, q, List.getElem_mem h2⟩
structure Txt (K : PySem.W.Frag) (mg : Str → Option Value) : Prop where
  z_len : mg "len" = none
  z_int : mg "int" = none
  z_tuple : mg "tuple" = none
  z_range : mg "range" = none
  z_isinstance : mg "isinstance" = none
  z_bool : mg "bool" = none

/-! ### the law's own drawing, from a list of two numbers -/
/-- a source stands at p -/
def Src (H : Hp) (p : Addr) : Prop := ∃ a b : Int, H p = some (.lst [.int a, .int b]) ∧ 0 ≤ b ∧ b < 2147483647
/-- all is as it was, but what stands at p -/
def Bt (p : Addr) (H H' : Hp) : Prop := ∀ b o, b ≠ p → H b = some o → H' b = some o
theorem Bt.refl {p : Addr} (H : Hp) : Bt p H H := fun _ _ _ h => h
theorem Bt.of {p : Addr} {H H' : Hp} (a : Same H H') : Bt p H H' := fun _ _ _ h => a _ _ h
theorem Bt.trans {p : Addr} {H H1 H2 : Hp} (a : Bt p H H1) (b : Bt p H1 H2) : Bt p H H2 := fun c o n h => b c o n (a c o n h)
theorem Src.keep {H H' : Hp} {p : Addr} (h : Src H p) (e : Same H H') : Src H' p := by
  obtain ⟨a, b, h1, h2⟩ := h
  exact ⟨a, b, e _ _ h1, h2⟩
theorem Src.free {H : Hp} {p c : Addr} (h : Src H p) (hc : H c = none) : c ≠ p := by
  obtain ⟨a, b, h1, _⟩ := h
  exact (ne_of_none h1 hc).symm
/-- a thing beside p -/
def At (p : Addr) (H : Hp) (q : Addr) (o : HO) : Prop := q ≠ p ∧ H q = some o
theorem At.go {p q : Addr} {H H' : Hp} {o : HO} (h : At p H q o) (e : Bt p H H') : At p H' q o := ⟨h.1, e _ _ h.1 h.2⟩
theorem new_at {H : Hp} {p q : Addr} {o : HO} (S : Src H p) (hq : H q = none) : Src (upd H q o) p ∧ Bt p H (upd H q o) ∧ At p (upd H q o) q o :=
  ⟨S.keep (same_upd hq), Bt.of (same_upd hq), S.free hq, upd_same⟩
theorem seq0 {n : Nat} (h : 0 < n) : seqIndex? 0 n = some 0 := by
  simp only [seqIndex?]
  simp
  omega
theorem fmod_range {x m : Int} (h : 1 ≤ m) : 0 ≤ x.fmod m ∧ x.fmod m < m := by
  rw [Int.fmod_eq_emod_of_nonneg _ (by omega)]
  exact ⟨Int.emod_nonneg _ (by omega), Int.emod_lt_of_pos _ (by omega)⟩
def spCellK (K : PySem.W.Frag) : Sp := fun vs H Q _ => ∃ (a : Addr) (ns : List Int) (k : Nat), vs = [.ref a, .int k] ∧ SqL K H a (ns.map V.int) ∧ ns.length ≤ 63 ∧ ∀ c : Int, Q (.int c) H
def spSource : Sp := fun vs H Q _ => ∃ (c : Int) (k : Nat), vs = [.int c, .int k] ∧ k ≤ 1000 ∧ ∀ (p : Addr) H', Same H H' → Src H' p → H p = none → Q (.ref p) H'
def spPick : Sp := fun vs H Q _ => ∃ (p : Addr) (m : Int), vs = [.ref p, .int m] ∧ Src H p ∧ 1 ≤ m ∧ m < 1000000 ∧ ∀ (r : Int) H', 0 ≤ r → r < m → Src H' p → Bt p H H' → Q (.int r) H'
section
variable {P : Program} {w : World} {K : PySem.W.Frag} {mg : Str → Option Value} {base : Heap} {f : Addr} {fd : FuncData}
abbrev s_l_cell : Stmt := topS 4
theorem sc_l_cell : FnScope ["script", "k"] ["script", "k"] (defScope s_l_cell) := ⟨rfl, rfl, rfl, by decide +kernel, rfl, by decide +kernel, by decide +kernel⟩

theorem ok_cell (F : Fun K "_law_cell" "_law_cell" s_l_cell f fd) (T : Txt K mg) : FnOk P w K mg base CX0 1 f fd ["script", "k"] (spCellK K) := by
  refine F.ok sc_l_cell (fun vs H Q E h => ?_) (fun cdv A outer s H vs Q E hr h => ?_)
  · obtain ⟨a, ns, k, rfl, _⟩ := h
    rfl
  obtain ⟨a, ns, k, rfl, hS, hn, q⟩ := h
  refine ⟨_, (pss_cons (ps_if (pt_cmpR op_lt (pv 1) (pe_callB call_len_seq (by rfl) T.z_len (by decide +kernel) (pa_cons (pv 0) pa_nil)) (nomark _))
      (pss_one (ps_ret (pe_ix ix_list (pv 0) (pv 1) (fun _ _ => rfl))))
      pss_nil)
    (pss_one (ps_ret pe_int))), ?_⟩
  refine ⟨_, rfl, _, rfl, a, _, rfl, .inl hS, _, _, rfl, rfl, _, rfl, ?_⟩
  refine ite2 (fun c => ?_) (fun c => q 0)
  have c2 := of_decide_eq_true c
  rw [List.length_map] at c2
  have h2 : k < ns.length := by omega
  exact ⟨_, rfl, _, rfl, a, _, _, .int (ns[k]), rfl, rfl, hS, atI_nat (by rw [List.getElem?_map, List.getElem?_eq_getElem h2]; rfl), q _⟩
abbrev s_l_source : Stmt := topS 5
theorem sc_l_source : FnScope ["cell", "k"] ["cell", "k"] (defScope s_l_source) := ⟨rfl, rfl, rfl, by decide +kernel, rfl, by decide +kernel, by decide +kernel⟩

theorem ok_source (F : Fun K "_law_source" "_law_source" s_l_source f fd) (T : Txt K mg) : FnOk P w K mg base CX0 1 f fd ["cell", "k"] spSource := by
  refine F.ok sc_l_source (fun vs H Q E h => ?_) (fun cdv A outer s H vs Q E hr h => ?_)
  · obtain ⟨c, k, rfl, _⟩ := h
    rfl
  obtain ⟨c, k, rfl, hk, q⟩ := h
  refine ⟨_, (pss_cons (ps_if (pt_cmpR op_ge (pv 0) (pe_op op_pow pe_int pe_int) (nomark _))
      (pss_one (ps_ret (pe_lst (pa_cons (pe_op op_sub (pv 0) (pe_op op_pow pe_int pe_int)) (pa_cons (pe_op op_add (pv 1) pe_int) pa_nil)))))
      pss_nil)
    (pss_one (ps_ret (pe_lst (pa_cons pe_int (pa_cons (pe_op op_modN (pe_callTy call_int1 (by rfl) T.z_int (by decide +kernel) (pa_cons (pe_op op_add (pe_op op_add (pe_op op_mul (pv 0) pe_int) (pe_op op_mul (pv 1) pe_int)) pe_int) pa_nil)) pe_int) pa_nil)))))), ?_⟩
  refine ⟨_, rfl, 10, 18, rfl, rfl, ⟨by decide, by decide, by decide⟩, _, _, rfl, rfl, _, rfl, ?_⟩
  refine ite2 (fun c1 => ?_) (fun c1 => ?_)
  · refine ⟨_, rfl, 10, 18, rfl, rfl, ⟨by decide, by decide, by decide⟩, _, _, rfl, rfl, _, rfl, _, _, rfl, rfl, (by show 2 ≤ sizeLine; decide), fun p hp => ?_⟩
    exact q p _ (same_upd hp) ⟨_, _, upd_same, by omega, by omega⟩ hp
  · refine ⟨_, rfl, c, 7919, rfl, rfl, .inr ⟨by decide, by decide⟩, _, rfl, (k : Int), 104729, rfl, rfl, .inr ⟨by decide, by decide⟩, _, _, rfl, rfl, _, _, rfl, rfl, .inl ⟨_, rfl, _, _, rfl, rfl, (by show (2147483647 : Int) ≠ 0; decide), ?_⟩⟩
    have rg := fmod_range (x := c * 7919 + k * 104729 + 1) (m := 2147483647) (by decide)
    exact ⟨(by show 2 ≤ sizeLine; decide), fun p hp => q p _ (same_upd hp) ⟨_, _, upd_same, rg.1, rg.2⟩ hp⟩
abbrev s_l_pick : Stmt := topS 6
theorem sc_l_pick : FnScope ["source", "many", "picked", "mixed"] ["source", "many"] (defScope s_l_pick) := ⟨rfl, rfl, rfl, by decide +kernel, rfl, by decide +kernel, by decide +kernel⟩

theorem ok_pick (F : Fun K "_law_pick" "_law_pick" s_l_pick f fd) (T : Txt K mg) : FnOk P w K mg base CX0 1 f fd ["source", "many"] spPick := by
  refine F.ok sc_l_pick (fun vs H Q E h => ?_) (fun cdv A outer s H vs Q E hr h => ?_)
  · obtain ⟨p, m, rfl, _⟩ := h
    rfl
  obtain ⟨p, m, rfl, hSt, hm1, hm2, k⟩ := h
  refine ⟨_, (pss_cons (ps_if (pt_cmpR op_gt (pe_ix ix_list (pv 0) pe_int (fun _ _ => rfl)) pe_int (nomark _))
      (pss_cons (ps_set (i := 2) sc_l_pick.nd rfl (Or.inl rfl) (pe_op op_modN (pe_callTy call_int1 (by rfl) T.z_int (by decide +kernel) (pa_cons (pe_ix ix_list (pv 0) pe_int (fun _ _ => rfl)) pa_nil)) (pv 1)))
      (pss_cons (ps_asg (pe_op op_fdivN (pe_ix ix_list (pv 0) pe_int (fun _ _ => rfl)) (pv 1)) (pg_sub (pv 0) pe_int set_list))
      (pss_one (ps_ret (pv 2)))))
      pss_nil)
    (pss_cons (ps_asg (pe_op op_modN (pe_callTy call_int1 (by rfl) T.z_int (by decide +kernel) (pa_cons (pe_op op_add (pe_op op_mul (pe_ix ix_list (pv 0) pe_int (fun _ _ => rfl)) pe_int) pe_int) pa_nil)) pe_int) (pg_sub (pv 0) pe_int set_list))
    (pss_cons (ps_set (i := 3) sc_l_pick.nd rfl (Or.inl rfl) (pe_op op_modN (pe_callTy call_int1 (by rfl) T.z_int (by decide +kernel) (pa_cons (pe_op op_add (pe_op op_add (pe_op op_mul (pe_ix ix_list (pv 0) pe_int (fun _ _ => rfl)) pe_int) (pe_op op_fdivN (pe_ix ix_list (pv 0) pe_int (fun _ _ => rfl)) pe_int)) pe_int) pa_nil)) pe_int))
    (pss_one (ps_ret (pe_op op_modN (pe_callTy call_int1 (by rfl) T.z_int (by decide +kernel) (pa_cons (pe_op op_fdivN (pv 3) pe_int) pa_nil)) (pv 1))))))), ?_⟩
  obtain ⟨a, b, hp, hb0, hb1⟩ := id hSt
  have bt : ∀ o, Bt p H (upd H p o) := fun o x u n z => by rw [upd_ne n]; exact z
  -- if source[0] > 1
  refine ⟨_, rfl, p, _, _, .int a, rfl, rfl, SqL.of hp, rfl, _, _, rfl, rfl, _, rfl, ?_⟩
  refine ite2 (fun c1 => ?_) (fun c1 => ?_)
  · refine ⟨_, rfl, p, _, _, .int a, rfl, rfl, SqL.of hp, rfl, .inl ⟨_, rfl, _, rfl, _, _, rfl, rfl, by omega, ?_⟩⟩
    refine ⟨_, rfl, p, _, _, .int a, rfl, rfl, SqL.of hp, rfl, _, rfl, _, _, rfl, rfl, ⟨by omega, by omega⟩, _, rfl, p, _, 0, 0, rfl, rfl, hp, rfl, ?_⟩
    have rg := fmod_range (x := a) (m := m) hm1
    exact ⟨_, rfl, k _ _ rg.1 rg.2 ⟨_, b, upd_same, hb0, hb1⟩ (bt _)⟩
  · -- source[1] = int(source[1] * 48271 + 12345) % 2147483647
    refine ⟨_, rfl, p, _, _, .int b, rfl, rfl, SqL.of hp, rfl, b, 48271, rfl, rfl, .inl ⟨by omega, by omega⟩, _, _, rfl, rfl, .inl ⟨_, rfl, _, _, rfl, rfl, (by show (2147483647 : Int) ≠ 0; decide), ?_⟩⟩
    refine ⟨_, rfl, p, _, 1, 1, rfl, rfl, hp, rfl, ?_⟩
    have rg := fmod_range (x := b * 48271 + 12345) (m := 2147483647) (by decide)
    have e1 : (upd H p (.lst [.int a, .int ((b * 48271 + 12345).fmod 2147483647)])) p = some (.lst [.int a, .int ((b * 48271 + 12345).fmod 2147483647)]) := upd_same
    refine ⟨_, rfl, p, _, _, .int ((b * 48271 + 12345).fmod 2147483647), rfl, rfl, SqL.of e1, rfl, _, 69621, rfl, rfl, .inl ⟨by omega, by omega⟩, _, rfl, p, _, _, .int ((b * 48271 + 12345).fmod 2147483647), rfl, rfl, SqL.of e1, rfl, _, 127, rfl, rfl, ⟨by decide, by decide⟩, _, _, rfl, rfl, _, _, rfl, rfl, .inl ⟨_, rfl, _, _, rfl, rfl, (by show (2147483629 : Int) ≠ 0; decide), ?_⟩⟩
    refine ⟨_, rfl, _, 16, rfl, rfl, ⟨by decide, by decide⟩, .inl ⟨_, rfl, _, rfl, _, _, rfl, rfl, by omega, ?_⟩⟩
    have rg2 := fun x => fmod_range (x := x) (m := m) hm1
    exact k _ _ (rg2 _).1 (rg2 _).2 ⟨a, _, e1, rg.1, rg.2⟩ (bt _)
end
theorem Bt.tu {p : Addr} {H H' : Hp} (S : Src H p) (B : Bt p H H') : Tu H H' := fun b xs e => by
  obtain ⟨_, _, h, _⟩ := S
  refine B b _ (fun c => ?_) e
  subst c
  rw [h] at e
  cases e
/-- a comprehension whose every item comes of the source -/
theorem lc_src {J : It} {n : Nat} {G : Hp → Prop} {Y : Nat → Hp → V → Hp → Prop} (w : Walk J n G Y) {g : TG} {tt : TT} {te : TE} {vs : List Nat} {σ : L2.St} {H1 : Hp} {D p : Addr} {Qd : Hp → Prop} (I : Hp → V → Prop) (hn : n ≤ 100000) (hD : H1 D = none) (S : Src H1 p)
    (hI : ∀ H H' v, Tu H H' → I H v → I H' v) (hG : ∀ H, Bt p H1 H → G H)
    (hs : ∀ i x H H' (NT : VK) (NF : Hp → Prop), i < n → Src H p → Bt p H1 H → Y i H x H' → (∀ v H4, I H4 v → Src H4 p → Bt p H H4 → NT v H4) → g x (wipe σ vs) H' fun σ2 H2 => wipe σ2 vs = wipe σ vs ∧ tt σ2 H2 fun c H3 => if c = true then te σ2 H3 NT else NF H3)
    (hd : ∀ H us, Src H p → Bt p H1 H → H D = some (.lst us) → us.length = n → (∀ v ∈ us, I H v) → Qd H) :
    ∃ W : Nat → Nat → Hp → Prop, (∃ m, W 0 m (upd H1 D (.lst []))) ∧ ∀ i m H, W i m H →
      (J.stop i H ∧ Qd H) ∨ (J.go i H ∧ ∃ Nx : Hp → Prop, (∀ H', Nx H' → ∃ m', m' < m ∧ W (i + 1) m' H') ∧ ∀ x H', J.yld i H x H' → g x (wipe σ vs) H' fun σ2 H2 => wipe σ2 vs = wipe σ vs ∧ tt σ2 H2 fun b H3 =>
        if b = true then te σ2 H3 fun y H4 => ∃ acc, H4 D = some (.lst acc) ∧ acc.length < sizeLine ∧ Nx (upd H4 D (.lst (acc ++ [y]))) else Nx H3) := by
  have Dp : D ≠ p := S.free hD
  refine lc_it w (fun i H => Src H p ∧ Bt p H1 H ∧ ∃ us, H D = some (.lst us) ∧ us.length = i ∧ ∀ v ∈ us, I H v) ⟨S.keep (same_upd hD), Bt.of (same_upd hD), [], upd_same, rfl, fun _ h => nomatch h⟩ (fun i H _ h => hG H h.2.1) (fun i x H H' hi h y => ?_) (fun H ⟨h1, h2, us, h3, h4, h5⟩ => hd H us h1 h2 h3 h4 h5)
  obtain ⟨S1, B1, us, eD, el, hall⟩ := h
  refine hs i x H H' _ _ hi S1 B1 y (fun v H4 iv S4 B4 => ?_)
  have T4 := B4.tu S1
  have eD4 := B4 _ _ Dp eD
  have TD : ∀ o, Tu H4 (upd H4 D o) := fun o => Tu.upd fun xs e => by
    rw [eD4] at e
    cases e
  refine ⟨us, eD4, ?_, ?_, fun b o hb hz => ?_, us ++ [v], upd_same, ?_, fun u hu => ?_⟩
  · rw [el]
    exact Nat.lt_of_lt_of_le (Nat.lt_of_lt_of_le hi hn) (by decide)
  · obtain ⟨a, b, h1, h2⟩ := S4
    exact ⟨a, b, by rw [upd_ne Dp.symm]; exact h1, h2⟩
  · rw [upd_ne (ne_of_none hz hD)]
    exact B4 _ _ hb (B1 _ _ hb hz)
  · rw [List.length_append, el]
    rfl
  · rcases List.mem_append.mp hu with hu | hu
    · exact hI _ _ _ (TD _) (hI _ _ _ T4 (hall u hu))
    · rw [List.mem_singleton.mp hu]
      exact hI _ _ _ (TD _) iv
theorem nw {H : Hp} {p q : Addr} (S : Src H p) (hq : H q = none) (o : HO) : Src (upd H q o) p ∧ Bt p H (upd H q o) ∧ Tu H (upd H q o) :=
  ⟨S.keep (same_upd hq), Bt.of (same_upd hq), Tu.of (same_upd hq)⟩
theorem ints_of : ∀ {us : List V}, (∀ v ∈ us, ∃ r : Int, v = .int r) → ∃ ws : List Int, us = ws.map V.int
  | [], _ => ⟨[], rfl⟩
  | u :: us, h => by
    obtain ⟨r, rfl⟩ := h u (List.mem_cons_self ..)
    obtain ⟨ws, rfl⟩ := ints_of fun v hv => h v (List.mem_cons_of_mem _ hv)
    exact ⟨r :: ws, rfl⟩
/-! ### uses, targets -/
def iD (ns : List Int) : PyData := .tuple (ns.map PyData.int)
def useL (t m pl : Int) (ws : List Int) (rl : PyData) (al : Bool) (tl : List PyData) : List PyData :=
  .int t :: iD ws :: .int m :: .int pl :: rl :: .tuple [.int 0, .int 1, .int 2] :: .bool al :: tl
def spUse : Sp := fun vs H Q _ => ∃ p, vs = [.ref p] ∧ Src H p ∧ ∀ v H' t m pl ws rl al tl, Src H' p → Bt p H H' → ws.length ≤ 1000 → Pd H' v (.tuple (useL t m pl ws rl al tl)) → Q v H'
def isNn : PyData → Bool
  | .none => true
  | _ => false
/-- what may stand for the words of a target -/
def TgW (d : PyData) : Prop := d = .none ∨ ∃ ws, d = iD ws
def spTgt : Sp := fun vs H Q _ => ∃ p u t m pl ws rl al tl, vs = [.ref p, u] ∧ Src H p ∧ ws.length ≤ 1000 ∧ Pd H u (.tuple (useL t m pl ws rl al tl)) ∧ ∀ v H' tool d, Src H' p → Bt p H H' → TgW d → Pd H' v (.tuple [.int tool, d]) → Q v H'
def hitB (al : Bool) (t : Int) (ws : List Int) (tool : Int) (d : PyData) : Bool := if al = true then (if decide (t = tool) = true then (if isNn d = true then true else PyData.eqv (iD ws) d) else false) else false
def spHits : Sp := fun vs H Q _ => ∃ u t m pl ws rl al tl v tool d, vs = [u, v] ∧ TgW d ∧ Pd H u (.tuple (useL t m pl ws rl al tl)) ∧ Pd H v (.tuple [.int tool, d]) ∧ Q (.bl (hitB al t ws tool d)) H
def spFirst : Sp := fun vs H Q _ => ∃ f g, vs = [f, g] ∧ ∀ l e H', Same H H' → H' l = some (.tup [f, g, f, g, .ref e, .bl false]) → H' e = some (.tup []) → Q (.ref l) H'
def spLaw (K : PySem.W.Frag) : Sp := fun vs H Q _ => ∃ (a : Addr) (ns : List Int), vs = [.ref a] ∧ SqL K H a (ns.map V.int) ∧ ns.length ≤ 63 ∧ ∀ H', Q (.bl true) H'
theorem use_inv {H : Hp} {v : V} {t m pl : Int} {ws : List Int} {rl : PyData} {al : Bool} {tl : List PyData} (h : Pd H v (.tuple (useL t m pl ws rl al tl))) :
    ∃ u wa x4 x5 xt, v = .ref u ∧ H u = some (.tup (.int t :: .ref wa :: .int m :: .int pl :: x4 :: x5 :: .bl al :: xt)) ∧ H wa = some (.tup (ws.map V.int)) := by
  obtain ⟨u, xs, rfl, e, h⟩ := h.inv
  unfold useL at h
  obtain ⟨v0, r0, rfl, h0, h⟩ := h.inv
  obtain ⟨v1, r1, rfl, h1, h⟩ := h.inv
  obtain ⟨v2, r2, rfl, h2, h⟩ := h.inv
  obtain ⟨v3, r3, rfl, h3, h⟩ := h.inv
  obtain ⟨v4, r4, rfl, h4, h⟩ := h.inv
  obtain ⟨v5, r5, rfl, h5, h⟩ := h.inv
  obtain ⟨v6, r6, rfl, h6, h⟩ := h.inv
  obtain ⟨wa, ys, rfl, e1, h1⟩ := h1.inv
  rw [h1.ints_inv] at e1
  rw [h0.int_inv, h2.int_inv, h3.int_inv, h6.bl_inv] at e
  exact ⟨u, wa, v4, v5, r6, rfl, e, e1⟩
theorem tgt_inv {H : Hp} {v : V} {tool : Int} {d : PyData} (h : Pd H v (.tuple [.int tool, d])) : ∃ u x, v = .ref u ∧ H u = some (.tup [.int tool, x]) ∧ Pd H x d := by
  obtain ⟨u, xs, rfl, e, h⟩ := h.inv
  obtain ⟨v0, r0, rfl, h0, h⟩ := h.inv
  obtain ⟨v1, r1, rfl, h1, h⟩ := h.inv
  rw [h.nil_inv, h0.int_inv] at e
  exact ⟨u, v1, rfl, e, h1⟩
theorem shaped_iD (ns : List Int) : SeqAt.shaped (iD ns) = true := by
  unfold SeqAt.shaped
  have h1 : PyData.canLay0 (iD ns) = true := canLay_ints ns
  have h2 : PyData.depth (iD ns) = 1 := by
    show PyData.depthAll (ns.map PyData.int) + 1 = 1
    rw [depth_ints]
  rw [h1, h2] <;> rfl
theorem shaped_tgw {d : PyData} (h : TgW d) : SeqAt.shaped d = true := by
  rcases h with rfl | ⟨ws, rfl⟩
  · rfl
  · exact shaped_iD ws
theorem isN_of {H : Hp} {x : V} {d : PyData} (h : Pd H x d) : decide (x = V.non) = isNn d := by
  cases h <;> simp [isNn]
section
variable {P : Program} {w : World} {K : PySem.W.Frag} {mg : Str → Option Value} {base : Heap} {f : Addr} {fd : FuncData}
abbrev s_l_use : Stmt := topS 7
theorem sc_l_use : FnScope ["source", "words", "use", "k"] ["source"] (defScope s_l_use) := ⟨rfl, rfl, rfl, by decide +kernel, rfl, by decide +kernel, by decide +kernel⟩

theorem ok_use (F : Fun K "_law_use" "_law_use" s_l_use f fd) (T : Txt K mg) (C_l_pick : Callee P w K mg base 1 "_law_pick" ["source", "many"] spPick) : FnOk P w K mg base CX0 2 f fd ["source"] spUse := by
  refine F.ok sc_l_use (fun vs H Q E h => ?_) (fun cdv A outer s H vs Q E hr h => ?_)
  · obtain ⟨p, rfl, _⟩ := h
    rfl
  obtain ⟨p, rfl, S0, k⟩ := h
  refine ⟨_, (pss_cons (ps_set (i := 1) sc_l_use.nd rfl (Or.inl rfl) (pe_callTy call_tuple_of (by rfl) T.z_tuple (by decide +kernel) (pa_cons (pe_lc (own := [("k", 3)]) (g := gName 3) (tt := tYes) rfl sc_l_use.nd (pi_range1 (by rfl) T.z_range (pa_cons (pe_call C_l_pick.ok (hr.mono (by omega)) (by rfl) C_l_pick.mg C_l_pick.kp C_l_pick.b .nil pass0 (pa_cons (pv 0) (pa_cons pe_int pa_nil))) pa_nil)) (blkOk_by (own := [("k", 3)]) (N := ["source", "words", "use", "k"]) (sc := defScope s_l_use) (by decide +kernel)) (fun _ _ _ _ _ => pg_name (i := 3) sc_l_use.nd rfl (Or.inl rfl)) (fun _ _ _ _ _ => pts_nil) (fun _ _ _ _ _ => (pe_call C_l_pick.ok (hr.mono (by omega)) (by rfl) C_l_pick.mg C_l_pick.kp C_l_pick.b .nil pass0 (pa_cons (pv 0) (pa_cons pe_int pa_nil))))) pa_nil)))
    (pss_cons (ps_set (i := 2) sc_l_use.nd rfl (Or.inl rfl) (pe_tup (pa_cons (pe_call C_l_pick.ok (hr.mono (by omega)) (by rfl) C_l_pick.mg C_l_pick.kp C_l_pick.b .nil pass0 (pa_cons (pv 0) (pa_cons pe_int pa_nil))) (pa_cons (pv 1) (pa_cons (pe_call C_l_pick.ok (hr.mono (by omega)) (by rfl) C_l_pick.mg C_l_pick.kp C_l_pick.b .nil pass0 (pa_cons (pv 0) (pa_cons pe_int pa_nil))) (pa_cons (pe_call C_l_pick.ok (hr.mono (by omega)) (by rfl) C_l_pick.mg C_l_pick.kp C_l_pick.b .nil pass0 (pa_cons (pv 0) (pa_cons pe_int pa_nil))) pa_nil))))))
    (pss_cons (ps_set (i := 2) sc_l_use.nd rfl (Or.inl rfl) (pe_op op_catT (pv 2) (pe_tup (pa_cons (pe_ix ix_list (pe_lst (pa_cons pe_non (pa_cons pe_int (pa_cons pe_int pa_nil)))) (pe_call C_l_pick.ok (hr.mono (by omega)) (by rfl) C_l_pick.mg C_l_pick.kp C_l_pick.b .nil pass0 (pa_cons (pv 0) (pa_cons pe_int pa_nil))) (fun _ _ => rfl)) (pa_cons (pe_tup (pa_cons pe_int (pa_cons pe_int (pa_cons pe_int pa_nil)))) (pa_cons (pe_cmpR op_gt (pe_call C_l_pick.ok (hr.mono (by omega)) (by rfl) C_l_pick.mg C_l_pick.kp C_l_pick.b .nil pass0 (pa_cons (pv 0) (pa_cons pe_int pa_nil))) pe_int (nomark _)) pa_nil))))))
    (pss_cons (ps_if (pt_cmpR op_eq (pe_call C_l_pick.ok (hr.mono (by omega)) (by rfl) C_l_pick.mg C_l_pick.kp C_l_pick.b .nil pass0 (pa_cons (pv 0) (pa_cons pe_int pa_nil))) pe_int (nomark _))
      (pss_one (ps_ret (pe_op op_catT (pv 2) (pe_tup (pa_cons (pe_tup (pa_cons pe_str (pa_cons pe_int pa_nil))) pa_nil)))))
      pss_nil)
    (pss_one (ps_ret (pv 2))))))), ?_⟩
  -- words
  refine ⟨_, rfl, p, 3, rfl, S0, by decide, by decide, fun n H1 n0 n1 S1 A1 => ?_⟩
  refine ⟨n, rfl, by omega, by omega, fun D hD => ?_⟩
  refine lc_src (p := p) walk_range (fun _ v => ∃ r : Int, v = .int r) (by omega) hD S1 (fun _ _ _ _ h => h) (fun _ _ => trivial) (fun i x H H' NT NF hi Sx Bx y hk => ?_) (fun H2 us S2 B2 eD hl hall => ?_)
  · obtain ⟨rfl, rfl⟩ := y
    refine ⟨rfl, ?_⟩
    unfold tYes
    refine iteT ?_
    exact ⟨_, rfl, p, 3, rfl, Sx, by decide, by decide, fun r H4 _ _ S4 B4 => hk _ _ ⟨r, rfl⟩ S4 B4⟩
  obtain ⟨ws, rfl⟩ := ints_of hall
  rw [List.length_map] at hl
  refine ⟨D, _, rfl, .inl ⟨SqL.of eD, fun l hl3 => ?_⟩⟩
  have A2 := A1.trans B2
  obtain ⟨S3, B3, T3⟩ := nw S2 hl3 (.tup (ws.map V.int))
  have P3 : Pd (upd H2 l (.tup (ws.map V.int))) (.ref l) (iD ws) := .tup upd_same (PdAll.ints ws)
  generalize upd H2 l (.tup (ws.map V.int)) = H3 at S3 B3 T3 P3 ⊢
  have A3 := A2.trans B3
  -- use = (..)
  refine ⟨_, rfl, p, 3, rfl, S3, by decide, by decide, fun t H4 _ _ S4 B4 => ?_⟩
  refine ⟨_, rfl, _, rfl, p, 64, rfl, S4, by decide, by decide, fun m H5 _ _ S5 B5 => ?_⟩
  refine ⟨_, rfl, p, 3, rfl, S5, by decide, by decide, fun pl H6 _ _ S6 B6 => ?_⟩
  have A6 := ((A3.trans B4).trans B5).trans B6
  have P6 := ((P3.go (B4.tu S3)).go (B5.tu S4)).go (B6.tu S5)
  refine ⟨(by show 4 ≤ sizeLine; decide), fun u hu => ?_⟩
  obtain ⟨S7, B7, T7⟩ := nw S6 hu (.tup [.int t, .ref l, .int m, .int pl])
  have P7 := P6.go T7
  have E7 : (upd H6 u (.tup [.int t, .ref l, .int m, .int pl])) u = some (.tup [.int t, .ref l, .int m, .int pl]) := upd_same
  generalize upd H6 u (.tup [.int t, .ref l, .int m, .int pl]) = H7 at S7 B7 T7 P7 E7 ⊢
  have A7 := A6.trans B7
  -- use + ([None, 0, 2][..], (0, 1, 2), ..)
  refine ⟨_, rfl, (by show 3 ≤ sizeLine; decide), fun a ha => ?_⟩
  obtain ⟨S8, B8, T8⟩ := nw S7 ha (.lst [.non, .int 0, .int 2])
  have pa : a ≠ p := S7.free ha
  have E8 : (upd H7 a (.lst [.non, .int 0, .int 2])) a = some (.lst [.non, .int 0, .int 2]) := upd_same
  generalize upd H7 a (.lst [.non, .int 0, .int 2]) = H8 at S8 B8 T8 E8 ⊢
  refine ⟨_, rfl, p, 3, rfl, S8, by decide, by decide, fun r H9 r0 r1 S9 B9 => ?_⟩
  obtain ⟨rv, hrv, hm⟩ := at_in (xs := [.non, .int 0, .int 2]) r0 r1
  obtain ⟨rl, Prl⟩ : ∃ rl, ∀ H, Pd H rv rl := by
    rcases List.mem_cons.mp hm with rfl | hm
    · exact ⟨_, fun _ => .non⟩
    rcases List.mem_cons.mp hm with rfl | hm
    · exact ⟨_, fun _ => .int _⟩
    rw [List.mem_singleton.mp hm]
    exact ⟨_, fun _ => .int _⟩
  refine ⟨a, _, _, rv, rfl, rfl, SqL.of (B9 _ _ pa E8), hrv, ?_⟩
  refine ⟨(by show 3 ≤ sizeLine; decide), fun c hc => ?_⟩
  obtain ⟨S10, B10, T10⟩ := nw S9 hc (.tup [.int 0, .int 1, .int 2])
  have P10 : Pd (upd H9 c (.tup [.int 0, .int 1, .int 2])) (.ref c) (.tuple [.int 0, .int 1, .int 2]) := .tup upd_same (.cons (.int 0) (.cons (.int 1) (.cons (.int 2) .nil)))
  generalize upd H9 c (.tup [.int 0, .int 1, .int 2]) = H10 at S10 B10 T10 P10 ⊢
  refine ⟨_, rfl, p, 3, rfl, S10, by decide, by decide, fun al H11 _ _ S11 B11 => ?_⟩
  refine ⟨_, _, rfl, rfl, (by show 3 ≤ sizeLine; decide), fun z hz => ?_⟩
  obtain ⟨S12, B12, T12⟩ := nw S11 hz (.tup [rv, .ref c, .bl (decide (0 < al))])
  have E12 : (upd H11 z (.tup [rv, .ref c, .bl (decide (0 < al))])) z = some (.tup [rv, .ref c, .bl (decide (0 < al))]) := upd_same
  generalize upd H11 z (.tup [rv, .ref c, .bl (decide (0 < al))]) = H12 at S12 B12 T12 E12 ⊢
  have T7c := ((((T8.trans (B9.tu S8)).trans T10).trans (B11.tu S10)).trans T12)
  have E7c := T7c _ _ E7
  refine ⟨u, z, _, _, rfl, rfl, SqT.of E7c, SqT.of E12, (by intro h; cases h), (by show 7 ≤ sizeLine; decide), (fun h => by cases h), fun _ q hq => ?_⟩
  have P12 : PdAll H12 ([.int t, .ref l, .int m, .int pl] ++ [rv, .ref c, .bl (decide (0 < al))]) (useL t m pl ws rl (decide (0 < al)) []) :=
    .cons (.int t) (.cons (P7.go T7c) (.cons (.int m) (.cons (.int pl) (.cons (Prl _) (.cons ((P10.go (B11.tu S10)).go T12) (.cons (.bl (decide (0 < al))) .nil))))))
  obtain ⟨S13, B13, T13⟩ := nw S12 hq (.tup ([.int t, .ref l, .int m, .int pl] ++ [rv, .ref c, .bl (decide (0 < al))]))
  have E13 : (upd H12 q (.tup ([.int t, .ref l, .int m, .int pl] ++ [rv, .ref c, .bl (decide (0 < al))]))) q = some (.tup ([.int t, .ref l, .int m, .int pl] ++ [rv, .ref c, .bl (decide (0 < al))])) := upd_same
  have P13 := P12.go T13
  generalize upd H12 q (.tup ([.int t, .ref l, .int m, .int pl] ++ [rv, .ref c, .bl (decide (0 < al))])) = H13 at S13 B13 T13 E13 P13 ⊢
  have A13 := (((((A7.trans B8).trans B9).trans B10).trans B11).trans B12).trans B13
  have hw : ws.length ≤ 1000 := by omega
  refine ⟨_, rfl, p, 2, rfl, S13, by decide, by decide, fun e H14 _ _ S14 B14 => ⟨rfl, _, rfl, ?_⟩⟩
  have A14 := A13.trans B14
  have T14 := B14.tu S13
  have P14 := P13.go T14
  have E14 := T14 _ _ E13
  refine ite2 (fun _ => ?_) (fun _ => ?_)
  · refine ⟨_, rfl, (by show 2 ≤ sizeLine; decide), fun b1 hb1 => ?_⟩
    obtain ⟨S15, B15, T15⟩ := nw S14 hb1 (.tup [.str "task", .int 3])
    have P15 : Pd (upd H14 b1 (.tup [.str "task", .int 3])) (.ref b1) (.tuple [.str "task", .int 3]) := .tup upd_same (.cons (.str _) (.cons (.int 3) .nil))
    generalize upd H14 b1 (.tup [.str "task", .int 3]) = H15 at S15 B15 T15 P15 ⊢
    refine ⟨(by show 1 ≤ sizeLine; decide), fun b2 hb2 => ?_⟩
    obtain ⟨S16, B16, T16⟩ := nw S15 hb2 (.tup [.ref b1])
    have E16 : (upd H15 b2 (.tup [.ref b1])) b2 = some (.tup [.ref b1]) := upd_same
    generalize upd H15 b2 (.tup [.ref b1]) = H16 at S16 B16 T16 E16 ⊢
    refine ⟨q, b2, _, _, rfl, rfl, SqT.of (T16 _ _ (T15 _ _ E14)), SqT.of E16, (by intro h; cases h), (by show 8 ≤ sizeLine; decide), (fun h => by cases h), fun _ g hg => ?_⟩
    obtain ⟨S17, B17, T17⟩ := nw S16 hg (.tup ([.int t, .ref l, .int m, .int pl] ++ [rv, .ref c, .bl (decide (0 < al))] ++ [.ref b1]))
    have P16 := ((P14.go T15).go T16).app (.cons (P15.go T16) .nil)
    exact k _ _ _ _ _ _ _ _ _ S17 (((A14.trans B15).trans B16).trans B17) hw (.tup upd_same (P16.go T17))
  · exact ⟨_, rfl, k _ _ _ _ _ _ _ _ _ S14 A14 hw (.tup E14 P14)⟩
abbrev s_l_target : Stmt := topS 8
theorem sc_l_target : FnScope ["source", "use", "tool", "which", "word"] ["source", "use"] (defScope s_l_target) := ⟨rfl, rfl, rfl, by decide +kernel, rfl, by decide +kernel, by decide +kernel⟩

theorem ok_target (F : Fun K "_law_target" "_law_target" s_l_target f fd) (T : Txt K mg) (C_l_pick : Callee P w K mg base 1 "_law_pick" ["source", "many"] spPick) : FnOk P w K mg base CX0 2 f fd ["source", "use"] spTgt := by
  refine F.ok sc_l_target (fun vs H Q E h => ?_) (fun cdv A outer s H vs Q E hr h => ?_)
  · obtain ⟨p, u, t, m, pl, ws, rl, al, tl, rfl, _⟩ := h
    rfl
  obtain ⟨p, uv, t, m, pl, ws, rl, al, tl, rfl, S0, hw, PU, k⟩ := h
  obtain ⟨u, wa, x4, x5, xt, rfl, eu, ew⟩ := use_inv PU
  clear PU
  refine ⟨_, (pss_cons (ps_set (i := 2) sc_l_target.nd rfl (Or.inl rfl) (pe_ix ix_list (pe_lst (pa_cons (pe_ix ix_tup (pv 1) pe_int (fun _ _ => rfl)) (pa_cons (pe_call C_l_pick.ok (hr.mono (by omega)) (by rfl) C_l_pick.mg C_l_pick.kp C_l_pick.b .nil pass0 (pa_cons (pv 0) (pa_cons pe_int pa_nil))) pa_nil))) (pe_op op_fdivN (pe_call C_l_pick.ok (hr.mono (by omega)) (by rfl) C_l_pick.mg C_l_pick.kp C_l_pick.b .nil pass0 (pa_cons (pv 0) (pa_cons pe_int pa_nil))) pe_int) (fun _ _ => rfl)))
    (pss_cons (ps_set (i := 3) sc_l_target.nd rfl (Or.inl rfl) (pe_call C_l_pick.ok (hr.mono (by omega)) (by rfl) C_l_pick.mg C_l_pick.kp C_l_pick.b .nil pass0 (pa_cons (pv 0) (pa_cons pe_int pa_nil))))
    (pss_cons (ps_if (pt_cmpR op_eq (pv 3) pe_int (nomark _))
      (pss_one (ps_ret (pe_tup (pa_cons (pv 2) (pa_cons pe_non pa_nil)))))
      pss_nil)
    (pss_cons (ps_if (pt_cmpR op_eq (pv 3) pe_int (nomark _))
      (pss_one (ps_ret (pe_tup (pa_cons (pv 2) (pa_cons (pe_callTy call_tuple_of (by rfl) T.z_tuple (by decide +kernel) (pa_cons (pe_lc (own := [("word", 4)]) (g := gName 4) (tt := tYes) rfl sc_l_target.nd (pi_tup (pe_ix ix_tup (pv 1) pe_int (fun _ _ => rfl))) (blkOk_by (own := [("word", 4)]) (N := ["source", "use", "tool", "which", "word"]) (sc := defScope s_l_target) (by decide +kernel)) (fun _ _ _ _ _ => pg_name (i := 4) sc_l_target.nd rfl (Or.inl rfl)) (fun _ _ _ _ _ => pts_nil) (fun _ _ _ _ _ => (pe_call C_l_pick.ok (hr.mono (by omega)) (by rfl) C_l_pick.mg C_l_pick.kp C_l_pick.b .nil pass0 (pa_cons (pv 0) (pa_cons pe_int pa_nil))))) pa_nil)) pa_nil)))))
      pss_nil)
    (pss_cons (ps_if (PW.pt (pw_and (pt_cmpR op_eq (pv 3) pe_int (nomark _)) (pw_and1 (pt_cmpR op_eq (pe_call C_l_pick.ok (hr.mono (by omega)) (by rfl) C_l_pick.mg C_l_pick.kp C_l_pick.b .nil pass0 (pa_cons (pv 0) (pa_cons pe_int pa_nil))) pe_int (nomark _)))))
      (pss_one (ps_ret (pe_tup (pa_cons (pv 2) (pa_cons (pe_slice sl_tupA (pe_ix ix_tup (pv 1) pe_int (fun _ _ => rfl)) po_none (po_some (pe_un un_neg pe_int))) pa_nil)))))
      pss_nil)
    (pss_one (ps_ret (pe_tup (pa_cons (pv 2) (pa_cons (pe_ix ix_tup (pv 1) pe_int (fun _ _ => rfl)) pa_nil)))))))))), ?_⟩
  -- tool
  refine ⟨_, rfl, u, _, _, .int t, rfl, rfl, SqT.of eu, atI_nat (j := 0) rfl, ?_⟩
  refine ⟨_, rfl, p, 4, rfl, S0, by decide, by decide, fun t2 H1 _ _ S1 B1 => ?_⟩
  refine ⟨(by show 2 ≤ sizeLine; decide), fun a ha => ?_⟩
  obtain ⟨S2, B2, T2⟩ := nw S1 ha (.lst [.int t, .int t2])
  have pa : a ≠ p := S1.free ha
  have E2 : (upd H1 a (.lst [.int t, .int t2])) a = some (.lst [.int t, .int t2]) := upd_same
  generalize upd H1 a (.lst [.int t, .int t2]) = H2 at S2 B2 T2 E2 ⊢
  refine ⟨_, rfl, p, 4, rfl, S2, by decide, by decide, fun r H3 r0 r1 S3 B3 => ?_⟩
  refine ⟨_, 3, rfl, rfl, ⟨by decide, by decide⟩, ?_⟩
  have rq : 0 ≤ r.fdiv 3 ∧ r.fdiv 3 < 2 := by
    rw [Int.fdiv_eq_ediv_of_nonneg _ (by decide)]
    omega
  obtain ⟨rv, hrv, hm⟩ := at_in (xs := [.int t, .int t2]) rq.1 rq.2
  obtain ⟨tool, rfl⟩ : ∃ tool : Int, rv = .int tool := by
    rcases List.mem_cons.mp hm with rfl | hm
    · exact ⟨_, rfl⟩
    rw [List.mem_singleton.mp hm]
    exact ⟨_, rfl⟩
  refine ⟨a, _, _, _, rfl, rfl, SqL.of (B3 _ _ pa E2), hrv, ?_⟩
  clear hrv hm rq E2 pa
  -- which
  refine ⟨_, rfl, p, 4, rfl, S3, by decide, by decide, fun wh H4 _ _ S4 B4 => ?_⟩
  have A4 := ((B1.trans B2).trans B3).trans B4
  have T4 := A4.tu S0
  have eu4 := T4 _ _ eu
  have ew4 := T4 _ _ ew
  refine ⟨_, rfl, rfl, _, rfl, ite2 (fun _ => ?_) (fun _ => ?_)⟩
  · refine ⟨_, rfl, (by show 2 ≤ sizeLine; decide), fun v hv => ?_⟩
    obtain ⟨S5, B5, T5⟩ := nw S4 hv (.tup [.int tool, .non])
    exact k _ _ _ _ S5 (A4.trans B5) (.inl rfl) (.tup upd_same (.cons (.int _) (.cons .non .nil)))
  refine ⟨_, rfl, rfl, _, rfl, ite2 (fun _ => ?_) (fun _ => ?_)⟩
  · refine ⟨_, rfl, _, rfl, u, _, _, .ref wa, rfl, rfl, SqT.of eu4, atI_nat (j := 1) rfl, wa, rfl, ⟨_, SqT.of ew4⟩, fun D hD => ?_⟩
    refine lc_src (p := p) (walk_tup (K := K) (xs := ws.map V.int)) (fun _ v => ∃ r : Int, v = .int r) (by rw [List.length_map]; omega) hD S4 (fun _ _ _ _ h => h) (fun H h => SqT.of (h.tu S4 _ _ ew4)) (fun i x H H' NT NF hi Sx Bx y hk => ?_) (fun H5 us S5 B5 eD hl hall => ?_)
    · obtain ⟨rfl, _⟩ := y
      refine ⟨rfl, ?_⟩
      unfold tYes
      refine iteT ?_
      exact ⟨_, rfl, p, 3, rfl, Sx, by decide, by decide, fun r H4 _ _ S4 B4 => hk _ _ ⟨r, rfl⟩ S4 B4⟩
    obtain ⟨vs, rfl⟩ := ints_of hall
    refine ⟨D, _, rfl, .inl ⟨SqL.of eD, fun l hl6 => ?_⟩⟩
    obtain ⟨S6, B6, T6⟩ := nw S5 hl6 (.tup (vs.map V.int))
    have P6 : Pd (upd H5 l (.tup (vs.map V.int))) (.ref l) (iD vs) := .tup upd_same (PdAll.ints vs)
    generalize upd H5 l (.tup (vs.map V.int)) = H6 at S6 B6 T6 P6 ⊢
    refine ⟨(by show 2 ≤ sizeLine; decide), fun v hv => ?_⟩
    obtain ⟨S7, B7, T7⟩ := nw S6 hv (.tup [.int tool, .ref l])
    exact k _ _ _ _ S7 (((A4.trans B5).trans B6).trans B7) (.inr ⟨_, rfl⟩) (.tup upd_same (.cons (.int _) (.cons (P6.go T7) .nil)))
  have fin : ∀ H5, Src H5 p → Bt p H4 H5 → H5 u = some (.tup (.int t :: .ref wa :: .int m :: .int pl :: x4 :: x5 :: .bl al :: xt)) → ∀ v H6 d, TgW d → Src H6 p → Bt p H5 H6 → Pd H6 v (.tuple [.int tool, d]) → Q v H6 := fun H5 S5 B5 _ v H6 d hd S6 B6 hp => k _ _ _ _ S6 ((A4.trans B5).trans B6) hd hp
  have last : ∀ H5, Src H5 p → Bt p H4 H5 → ∀ v, H5 v = none → Q (.ref v) (upd H5 v (.tup [.int tool, .ref wa])) := fun H5 S5 B5 v hv => by
    obtain ⟨S6, B6, T6⟩ := nw S5 hv (.tup [.int tool, .ref wa])
    exact k _ _ _ _ S6 ((A4.trans B5).trans B6) (.inr ⟨ws, rfl⟩) (.tup upd_same (.cons (.int _) (.cons (.tup (T6 _ _ (B5.tu S4 _ _ ew4)) (PdAll.ints ws)) .nil)))
  clear fin
  refine ⟨_, rfl, rfl, _, rfl, ite2 (fun _ => ?_) (fun _ => ?_)⟩
  · refine ⟨_, rfl, p, 2, rfl, S4, by decide, by decide, fun r H5 _ _ S5 B5 => ⟨rfl, _, rfl, ?_⟩⟩
    have T5 := B5.tu S4
    refine ite2 (fun _ => ?_) (fun _ => ?_)
    · refine ⟨_, rfl, _, rfl, u, _, _, .ref wa, rfl, rfl, SqT.of (T5 _ _ eu4), atI_nat (j := 1) rfl, _, rfl, _, rfl, wa, _, rfl, SqT.of (T5 _ _ ew4), fun _ => ?_, fun _ l hl6 => ?_⟩
      · exact ⟨(by show 2 ≤ sizeLine; decide), last H5 S5 B5⟩
      · have ec : ∃ vs : List Int, cutV (ws.map V.int) none (some (-1)) = vs.map V.int := by
          unfold cutV
          rw [← List.map_drop, ← List.map_take]
          exact ⟨_, rfl⟩
        obtain ⟨vs, ec⟩ := ec
        obtain ⟨S6, B6, T6⟩ := nw S5 hl6 (.tup (cutV (ws.map V.int) none (some (-1))))
        have P6 : Pd (upd H5 l (.tup (cutV (ws.map V.int) none (some (-1))))) (.ref l) (iD vs) := .tup upd_same (by rw [ec]; exact PdAll.ints vs)
        refine ⟨(by show 2 ≤ sizeLine; decide), fun v hv => ?_⟩
        obtain ⟨S7, B7, T7⟩ := nw S6 hv (.tup [.int tool, .ref l])
        exact k _ _ _ _ S7 (((A4.trans B5).trans B6).trans B7) (.inr ⟨_, rfl⟩) (.tup upd_same (.cons (.int _) (.cons (P6.go T7) .nil)))
    · exact ⟨_, rfl, _, rfl, u, _, _, .ref wa, rfl, rfl, SqT.of (T5 _ _ eu4), atI_nat (j := 1) rfl, (by show 2 ≤ sizeLine; decide), last H5 S5 B5⟩
  · exact ⟨_, rfl, _, rfl, u, _, _, .ref wa, rfl, rfl, SqT.of eu4, atI_nat (j := 1) rfl, (by show 2 ≤ sizeLine; decide), last H4 S4 (Bt.refl _)⟩
abbrev s_hits : Stmt := topS 2
theorem sc_hits : FnScope ["use", "target", "tool", "words"] ["use", "target"] (defScope s_hits) := ⟨rfl, rfl, rfl, by decide +kernel, rfl, by decide +kernel, by decide +kernel⟩

theorem ok_hits (F : Fun K "hits" "hits" s_hits f fd) (T : Txt K mg) : FnOk P w K mg base CX0 1 f fd ["use", "target"] spHits := by
  refine F.ok sc_hits (fun vs H Q E h => ?_) (fun cdv A outer s H vs Q E hr h => ?_)
  · obtain ⟨u, t, m, pl, ws, rl, al, tl, v, tool, d, rfl, _⟩ := h
    rfl
  obtain ⟨uv, t, m, pl, ws, rl, al, tl, v, tool, d, rfl, hd, PU, PT, k⟩ := h
  obtain ⟨u, wa, x4, x5, xt, rfl, eu, ew⟩ := use_inv PU
  obtain ⟨ta, x, rfl, et, px⟩ := tgt_inv PT
  refine ⟨_, (pss_cons (ps_asg (pv 1) (pg_tup rfl (pgs_cons (pg_name (i := 2) sc_hits.nd rfl (Or.inl rfl)) (pgs_cons (pg_name (i := 3) sc_hits.nd rfl (Or.inl rfl)) pgs_nil))))
    (pss_one (ps_ret (pe_cut (pe_and (pe_ix ix_tup (pv 0) pe_int (fun _ _ => rfl)) (pe_and (pe_cmpR op_eq (pe_ix ix_tup (pv 0) pe_int (fun _ _ => rfl)) (pv 2) (nomark _)) (pe_one (pe_cut (pe_or (pe_cmpR op_isN (pv 3) pe_non (nomark _)) (pe_one (pe_cmpR (op_eqD hr.units) (pe_ix ix_tup (pv 0) pe_int (fun _ _ => rfl)) (pv 3) (nomark _)))))))))))), ?_⟩
  refine ⟨_, rfl, ta, _, rfl, SqT.of et, rfl, _, _, rfl, _, _, rfl, rfl, ?_⟩
  refine ⟨fun v H' => v = .bl (hitB al t ws tool d) ∧ H = H', ?_, ?_⟩
  · refine ⟨_, rfl, u, _, _, .bl al, rfl, rfl, SqT.of eu, atI_nat (j := 6) rfl, al, rfl, ?_⟩
    unfold hitB
    refine ite2 (fun c => ?_) (fun c => ⟨by rw [if_neg c], rfl⟩)
    rw [if_pos c]
    refine ⟨_, rfl, u, _, _, .int t, rfl, rfl, SqT.of eu, atI_nat (j := 0) rfl, _, rfl, rfl, _, rfl, ?_⟩
    rw [dI]
    refine ite2 (fun c => ?_) (fun c => ⟨by rw [if_neg c], rfl⟩)
    rw [if_pos c]
    refine ⟨fun v H' => v = .bl (if isNn d = true then true else PyData.eqv (iD ws) d) ∧ H = H', ?_, ?_⟩
    · refine ⟨_, rfl, rfl, _, rfl, ?_⟩
      rw [isN_of px]
      refine ite2 (fun c => ⟨by rw [if_pos c], rfl⟩) (fun c => ?_)
      rw [if_neg c]
      refine ⟨_, rfl, u, _, _, .ref wa, rfl, rfl, SqT.of eu, atI_nat (j := 1) rfl, _, rfl, iD ws, d, (Pd.tup ew (PdAll.ints ws)).dp, px.dp, shaped_iD ws, shaped_tgw hd, rfl, rfl⟩
    · rintro _ _ ⟨rfl, rfl⟩
      exact ⟨rfl, rfl⟩
  · rintro _ _ ⟨rfl, rfl⟩
    exact k
abbrev s_first_line : Stmt := topS 1
theorem sc_first_line : FnScope ["frame", "ground"] ["frame", "ground"] (defScope s_first_line) := ⟨rfl, rfl, rfl, by decide +kernel, rfl, by decide +kernel, by decide +kernel⟩

theorem ok_first (F : Fun K "first_line" "first_line" s_first_line f fd) : FnOk P w K mg base CX0 1 f fd ["frame", "ground"] spFirst := by
  refine F.ok sc_first_line (fun vs H Q E h => ?_) (fun cdv A outer s H vs Q E hr h => ?_)
  · obtain ⟨f, g, rfl, _⟩ := h
    rfl
  obtain ⟨f, g, rfl, k⟩ := h
  refine ⟨_, (pss_one (ps_ret (pe_tup (pa_cons (pv 0) (pa_cons (pv 1) (pa_cons (pv 0) (pa_cons (pv 1) (pa_cons (pe_tup pa_nil) (pa_cons pe_bl pa_nil))))))))), ?_⟩
  refine ⟨_, rfl, _, rfl, _, rfl, _, rfl, Nat.zero_le _, fun e he => ⟨(by show 6 ≤ sizeLine; decide), fun l hl => ?_⟩⟩
  have s1 := same_upd (o := .tup []) he
  have s2 := same_upd (o := .tup [f, g, f, g, .ref e, .bl false]) hl
  exact k _ _ _ (s1.trans s2) upd_same (s2 _ _ upd_same)
mutual
theorem Pd.eqv {H : Hp} : ∀ {v : V} {d : PyData}, Pd H v d → PyData.eqv d d = true
  | _, _, .non => rfl
  | _, _, .bl b => by
    show (b == b) = true
    exact beq_self_eq_true b
  | _, _, .int i => by
    show (i == i) = true
    exact beq_self_eq_true i
  | _, _, .str x => by
    show (x == x) = true
    exact beq_self_eq_true x
  | _, _, .tup h t => PdAll.eqv t
theorem PdAll.eqv {H : Hp} : ∀ {vs : List V} {ds : List PyData}, PdAll H vs ds → PyData.eqvAll ds ds = true
  | _, _, .nil => rfl
  | _, _, .cons (d := d) (ds := ds) h t => by
    show (PyData.eqv d d && PyData.eqvAll ds ds) = true
    rw [Pd.eqv h, PdAll.eqv t]
    rfl
end
abbrev s_law : Stmt := topS 9
theorem sc_law : FnScope ["script", "k", "source", "use", "target", "due", "told", "frame", "ground", "line"] ["script"] (defScope s_law) := ⟨rfl, rfl, rfl, by decide +kernel, rfl, by decide +kernel, by decide +kernel⟩

theorem ok_law (F : Fun K "law" "law" s_law f fd) (T : Txt K mg) (C_hits : Callee P w K mg base 1 "hits" ["use", "target"] spHits) (C_first_line : Callee P w K mg base 1 "first_line" ["frame", "ground"] spFirst)
    (C_l_cell : Callee P w K mg base 1 "_law_cell" ["script", "k"] (spCellK K)) (C_l_source : Callee P w K mg base 1 "_law_source" ["cell", "k"] spSource) (C_l_pick : Callee P w K mg base 1 "_law_pick" ["source", "many"] spPick)
    (C_l_use : Callee P w K mg base 2 "_law_use" ["source"] spUse) (C_l_target : Callee P w K mg base 2 "_law_target" ["source", "use"] spTgt) : FnOk P w K mg base CX0 3 f fd ["script"] (spLaw K) := by
  refine F.ok sc_law (fun vs H Q E h => ?_) (fun cdv A outer s H vs Q E hr h => ?_)
  · obtain ⟨a, ns, rfl, _⟩ := h
    rfl
  obtain ⟨a, ns, rfl, hS, hlen, k⟩ := h
  refine ⟨_, (pss_cons (ps_for PassesOwn.never rfl (pi_range1 (by rfl) T.z_range (pa_cons pe_int pa_nil)) (pg_name (i := 1) sc_law.nd rfl (Or.inl rfl))
      (pss_one (ps_if (pt_cut (PW.pt (pw_or (pt_cmpR op_lt (pv 1) (pe_callB call_len_seq (by rfl) T.z_len (by decide +kernel) (pa_cons (pv 0) pa_nil)) (nomark _)) (pw_or1 (pt_cmpR op_lt (pv 1) pe_int (nomark _))))))
        (pss_cons (ps_set (i := 2) sc_law.nd rfl (Or.inl rfl) (pe_call C_l_source.ok (hr.mono (by omega)) (by rfl) C_l_source.mg C_l_source.kp C_l_source.b .nil pass0 (pa_cons (pe_call C_l_cell.ok (hr.mono (by omega)) (by rfl) C_l_cell.mg C_l_cell.kp C_l_cell.b .nil pass0 (pa_cons (pv 0) (pa_cons (pv 1) pa_nil))) (pa_cons (pv 1) pa_nil))))
        (pss_cons (ps_set (i := 3) sc_law.nd rfl (Or.inl rfl) (pe_call C_l_use.ok (hr.mono (by omega)) (by rfl) C_l_use.mg C_l_use.kp C_l_use.b .nil pass0 (pa_cons (pv 2) pa_nil)))
        (pss_cons (ps_set (i := 4) sc_law.nd rfl (Or.inl rfl) (pe_call C_l_target.ok (hr.mono (by omega)) (by rfl) C_l_target.mg C_l_target.kp C_l_target.b .nil pass0 (pa_cons (pv 2) (pa_cons (pv 3) pa_nil))))
        (pss_cons (ps_set (i := 5) sc_law.nd rfl (Or.inl rfl) (pe_cut (pe_and (pe_ix ix_tup (pv 3) pe_int (fun _ _ => rfl)) (pe_and (pe_cmpR op_eq (pe_ix ix_tup (pv 3) pe_int (fun _ _ => rfl)) (pe_ix ix_tup (pv 4) pe_int (fun _ _ => rfl)) (nomark _)) (pe_one (pe_cut (pe_or (pe_cmpR op_isN (pe_ix ix_tup (pv 4) pe_int (fun _ _ => rfl)) pe_non (nomark _)) (pe_one (pe_cmpR (op_eqD hr.units) (pe_ix ix_tup (pv 4) pe_int (fun _ _ => rfl)) (pe_ix ix_tup (pv 3) pe_int (fun _ _ => rfl)) (nomark _))))))))))
        (pss_cons (ps_set (i := 6) sc_law.nd rfl (Or.inl rfl) (pe_call C_hits.ok (hr.mono (by omega)) (by rfl) C_hits.mg C_hits.kp C_hits.b .nil pass0 (pa_cons (pv 3) (pa_cons (pv 4) pa_nil))))
        (pss_cons (ps_if (pt_cut (PW.pt (pw_or (pt_not (pt_val (pe_callB call_isi (by rfl) T.z_isinstance (by decide +kernel) (pa_cons (pv 6) (pa_cons (pe_bltn (v := .ty "bool") (by rfl) T.z_bool (by decide +kernel) rfl) pa_nil))))) (pw_or1 (pt_cmpR op_ne (pv 6) (pv 5) (nomark _))))))
          (pss_one (ps_ret pe_bl))
          pss_nil)
        (pss_cons (ps_set (i := 7) sc_law.nd rfl (Or.inl rfl) (pe_tup (pa_cons pe_int (pa_cons (pe_call C_l_pick.ok (hr.mono (by omega)) (by rfl) C_l_pick.mg C_l_pick.kp C_l_pick.b .nil pass0 (pa_cons (pv 2) (pa_cons pe_int pa_nil))) (pa_cons (pe_tup (pa_cons (pe_tup (pa_cons pe_int (pa_cons (pe_call C_l_pick.ok (hr.mono (by omega)) (by rfl) C_l_pick.mg C_l_pick.kp C_l_pick.b .nil pass0 (pa_cons (pv 2) (pa_cons pe_int pa_nil))) pa_nil))) (pa_cons (pe_tup (pa_cons pe_int (pa_cons pe_int pa_nil))) pa_nil))) (pa_cons (pe_call C_l_pick.ok (hr.mono (by omega)) (by rfl) C_l_pick.mg C_l_pick.kp C_l_pick.b .nil pass0 (pa_cons (pv 2) (pa_cons pe_int pa_nil))) pa_nil))))))
        (pss_cons (ps_set (i := 8) sc_law.nd rfl (Or.inl rfl) (pe_tup (pa_cons (pe_tup (pa_cons (pe_tup (pa_cons pe_int (pa_cons pe_int pa_nil))) pa_nil)) (pa_cons (pe_call C_l_pick.ok (hr.mono (by omega)) (by rfl) C_l_pick.mg C_l_pick.kp C_l_pick.b .nil pass0 (pa_cons (pv 2) (pa_cons pe_int pa_nil))) (pa_cons (pe_tup (pa_cons (pe_tup (pa_cons pe_int (pa_cons pe_int pa_nil))) (pa_cons (pe_tup pa_nil) pa_nil))) pa_nil)))))
        (pss_cons (ps_set (i := 9) sc_law.nd rfl (Or.inl rfl) (pe_call C_first_line.ok (hr.mono (by omega)) (by rfl) C_first_line.mg C_first_line.kp C_first_line.b .nil pass0 (pa_cons (pv 7) (pa_cons (pv 8) pa_nil))))
        (pss_one (ps_if (pt_cut (PW.pt (pw_or (pt_cmpR (op_neD hr.units) (pv 9) (pe_tup (pa_cons (pv 7) (pa_cons (pv 8) (pa_cons (pv 7) (pa_cons (pv 8) (pa_cons (pe_tup pa_nil) (pa_cons pe_bl pa_nil))))))) (nomark _)) (pw_or1 (pt_not (pt_val (pe_callB call_isi (by rfl) T.z_isinstance (by decide +kernel) (pa_cons (pe_ix ix_tup (pv 9) pe_int (fun _ _ => rfl)) (pa_cons (pe_bltn (v := .ty "bool") (by rfl) T.z_bool (by decide +kernel) rfl) pa_nil)))))))))
          (pss_one (ps_ret pe_bl))
          pss_nil)))))))))))
        pss_nil)))
    (pss_one (ps_ret pe_bl))), ?_⟩
  refine ⟨40, rfl, by decide, by decide, for_range (lo := 0) (n := 40) (fun i σ H' => ∃ x1 x2 x3 x4 x5 x6 x7 x8 x9, σ = [some (.ref a), x1, x2, x3, x4, x5, x6, x7, x8, x9] ∧ Same H H') ⟨none, none, none, none, none, none, none, none, none, rfl, Same.refl H⟩ ?_ ?_⟩
  · rintro i σ H0 hi ⟨x1, x2, x3, x4, x5, x6, x7, x8, x9, rfl, s0⟩
    have e0 : (0 : Int) + (i : Int) = (i : Int) := Int.zero_add _
    rw [e0]
    have hS0 := s0.seq hS
    refine ⟨fun b H' => H0 = H', ?_, ?_⟩
    · refine ⟨_, rfl, _, rfl, a, _, rfl, .inl hS0, _, _, rfl, rfl, _, rfl, ?_⟩
      refine ite2 (fun _ => rfl) (fun _ => ?_)
      exact ⟨_, rfl, _, _, rfl, rfl, _, rfl, rfl⟩
    rintro b _ rfl
    refine ite2 (fun _ => ?_) (fun _ => ⟨_, _, _, _, _, _, _, _, _, rfl, s0⟩)
    refine ⟨_, rfl, _, rfl, a, ns, i, rfl, hS0, hlen, fun c => ⟨_, rfl, c, i, rfl, by omega, fun p H1 s1 S1 np => ?_⟩⟩
    have sT : ∀ H', Bt p H1 H' → Same H H' := fun H' b x o z => b _ _ (ne_of_none (s0 _ _ z) np) (s1 _ _ (s0 _ _ z))
    refine ⟨_, rfl, p, rfl, S1, fun uv H2 t m pl ws rl al tl S2 B2 hw PU => ?_⟩
    refine ⟨_, rfl, _, rfl, p, uv, t, m, pl, ws, rl, al, tl, rfl, S2, hw, PU, fun tv H3 tool d S3 B3 hd PT => ?_⟩
    have A3 := B2.trans B3
    have PU3 := PU.go (B3.tu S2)
    clear PU
    obtain ⟨u, wa, x4, x5, xt, rfl, eu, ew⟩ := use_inv PU3
    obtain ⟨ta, x, rfl, et, px⟩ := tgt_inv PT
    -- due
    refine ⟨fun v H' => v = .bl (hitB al t ws tool d) ∧ H3 = H', ?_, ?_⟩
    · refine ⟨_, rfl, u, _, _, .bl al, rfl, rfl, SqT.of eu, atI_nat (j := 6) rfl, al, rfl, ?_⟩
      unfold hitB
      refine ite2 (fun c => ?_) (fun c => ⟨by rw [if_neg c], rfl⟩)
      rw [if_pos c]
      refine ⟨_, rfl, u, _, _, .int t, rfl, rfl, SqT.of eu, atI_nat (j := 0) rfl, _, rfl, ta, _, _, .int tool, rfl, rfl, SqT.of et, rfl, rfl, _, rfl, ?_⟩
      rw [dI]
      refine ite2 (fun c => ?_) (fun c => ⟨by rw [if_neg c], rfl⟩)
      rw [if_pos c]
      refine ⟨fun v H' => v = .bl (if isNn d = true then true else PyData.eqv (iD ws) d) ∧ H3 = H', ?_, ?_⟩
      · refine ⟨_, rfl, ta, _, _, x, rfl, rfl, SqT.of et, rfl, rfl, _, rfl, ?_⟩
        rw [isN_of px]
        refine ite2 (fun c => ⟨by rw [if_pos c], rfl⟩) (fun c => ?_)
        rw [if_neg c]
        refine ⟨_, rfl, ta, _, _, x, rfl, rfl, SqT.of et, rfl, _, rfl, u, _, _, .ref wa, rfl, rfl, SqT.of eu, atI_nat (j := 1) rfl, d, iD ws, px.dp, (Pd.tup ew (PdAll.ints ws)).dp, shaped_tgw hd, shaped_iD ws, ?_, rfl⟩
        rcases hd with rfl | ⟨vs, rfl⟩
        · exact absurd rfl c
        · show V.bl (PyData.eqvAll (vs.map PyData.int) (ws.map PyData.int)) = V.bl (PyData.eqvAll (ws.map PyData.int) (vs.map PyData.int))
          rw [eqv_ints, eqv_ints]
          exact congrArg V.bl (decide_eq_decide.mpr ⟨Eq.symm, Eq.symm⟩)
      · rintro _ _ ⟨rfl, rfl⟩
        exact ⟨rfl, rfl⟩
    rintro _ _ ⟨rfl, rfl⟩
    -- told
    refine ⟨_, rfl, _, rfl, _, t, m, pl, ws, rl, al, tl, _, tool, d, rfl, hd, PU3, PT, ?_⟩
    refine ⟨fun b H' => b = false ∧ H3 = H', ?_, ?_⟩
    · refine ⟨_, rfl, _, .ty "bool", _, _, true, rfl, .ty "bool", .base (.bl _), kit_ty (by decide +kernel), _, rfl, ifF rfl ?_⟩
      exact ⟨_, rfl, _, rfl, rfl, _, rfl, by rw [decide_eq_true rfl]; rfl, rfl⟩
    rintro _ _ ⟨rfl, rfl⟩
    refine iteF ?_
    clear eu ew et px hd PT PU3 hw s1 hS0
    -- frame
    refine ⟨_, rfl, p, 9, rfl, S3, by decide, by decide, fun r1 H4 _ _ S4 B4 => ?_⟩
    refine ⟨_, rfl, p, 64, rfl, S4, by decide, by decide, fun r2 H5 _ _ S5 B5 => ?_⟩
    refine ⟨(by show 2 ≤ sizeLine; decide), fun a1 h1 => ⟨(by show 2 ≤ sizeLine; decide), fun a2 h2 => ⟨(by show 2 ≤ sizeLine; decide), fun a3 h3 => ?_⟩⟩⟩
    obtain ⟨S6, B6, T6⟩ := nw S5 h1 (.tup [.int 1, .int r2])
    have P1 : Pd (upd H5 a1 (.tup [.int 1, .int r2])) (.ref a1) (.tuple [.int 1, .int r2]) := .tup upd_same (.cons (.int _) (.cons (.int _) .nil))
    generalize upd H5 a1 (.tup [.int 1, .int r2]) = H6 at S6 B6 T6 P1 h2 h3 ⊢
    obtain ⟨S7, B7, T7⟩ := nw S6 h2 (.tup [.int 0, .int 0])
    have P2 : Pd (upd H6 a2 (.tup [.int 0, .int 0])) (.ref a2) (.tuple [.int 0, .int 0]) := .tup upd_same (.cons (.int _) (.cons (.int _) .nil))
    generalize upd H6 a2 (.tup [.int 0, .int 0]) = H7 at S7 B7 T7 P2 h3 ⊢
    obtain ⟨S8, B8, T8⟩ := nw S7 h3 (.tup [.ref a1, .ref a2])
    have P3 : Pd (upd H7 a3 (.tup [.ref a1, .ref a2])) (.ref a3) (.tuple [.tuple [.int 1, .int r2], .tuple [.int 0, .int 0]]) := .tup upd_same (.cons ((P1.go T7).go T8) (.cons (P2.go T8) .nil))
    generalize upd H7 a3 (.tup [.ref a1, .ref a2]) = H8 at S8 B8 T8 P3 ⊢
    refine ⟨_, rfl, p, 64, rfl, S8, by decide, by decide, fun r3 H9 _ _ S9 B9 => ⟨(by show 4 ≤ sizeLine; decide), fun fr hfr => ?_⟩⟩
    obtain ⟨S10, B10, T10⟩ := nw S9 hfr (.tup [.int 0, .int r1, .ref a3, .int r3])
    have PF : Pd (upd H9 fr (.tup [.int 0, .int r1, .ref a3, .int r3])) (.ref fr) (.tuple [.int 0, .int r1, .tuple [.tuple [.int 1, .int r2], .tuple [.int 0, .int 0]], .int r3]) :=
      .tup upd_same (.cons (.int _) (.cons (.int _) (.cons ((P3.go (B9.tu S8)).go T10) (.cons (.int _) .nil))))
    generalize upd H9 fr (.tup [.int 0, .int r1, .ref a3, .int r3]) = H10 at S10 B10 T10 PF ⊢
    have A10 := ((((((A3.trans B4).trans B5).trans B6).trans B7).trans B8).trans B9).trans B10
    clear P1 P2 P3 T6 T7 T8 T10 B4 B5 B6 B7 B8 B9 B10 S4 S5 S6 S7 S8 S9 A3
    -- ground
    refine ⟨(by show 2 ≤ sizeLine; decide), fun b1 h1 => ⟨(by show 1 ≤ sizeLine; decide), fun b2 h2 => ?_⟩⟩
    obtain ⟨S11, B11, T11⟩ := nw S10 h1 (.tup [.int 0, .int 3])
    have P1 : Pd (upd H10 b1 (.tup [.int 0, .int 3])) (.ref b1) (.tuple [.int 0, .int 3]) := .tup upd_same (.cons (.int _) (.cons (.int _) .nil))
    generalize upd H10 b1 (.tup [.int 0, .int 3]) = H11 at S11 B11 T11 P1 h2 ⊢
    obtain ⟨S12, B12, T12⟩ := nw S11 h2 (.tup [.ref b1])
    have P2 : Pd (upd H11 b2 (.tup [.ref b1])) (.ref b2) (.tuple [.tuple [.int 0, .int 3]]) := .tup upd_same (.cons (P1.go T12) .nil)
    generalize upd H11 b2 (.tup [.ref b1]) = H12 at S12 B12 T12 P2 ⊢
    refine ⟨_, rfl, p, 3, rfl, S12, by decide, by decide, fun r4 H13 _ _ S13 B13 => ?_⟩
    refine ⟨(by show 2 ≤ sizeLine; decide), fun b3 h3 => ⟨Nat.zero_le _, fun b4 h4 => ⟨(by show 2 ≤ sizeLine; decide), fun b5 h5 => ⟨(by show 3 ≤ sizeLine; decide), fun gr hgr => ?_⟩⟩⟩⟩
    obtain ⟨S14, B14, T14⟩ := nw S13 h3 (.tup [.int 0, .int 1])
    have P3 : Pd (upd H13 b3 (.tup [.int 0, .int 1])) (.ref b3) (.tuple [.int 0, .int 1]) := .tup upd_same (.cons (.int _) (.cons (.int _) .nil))
    generalize upd H13 b3 (.tup [.int 0, .int 1]) = H14 at S14 B14 T14 P3 h4 h5 hgr ⊢
    obtain ⟨S15, B15, T15⟩ := nw S14 h4 (.tup [])
    have P4 : Pd (upd H14 b4 (.tup [])) (.ref b4) (.tuple []) := .tup upd_same .nil
    generalize upd H14 b4 (.tup []) = H15 at S15 B15 T15 P4 h5 hgr ⊢
    obtain ⟨S16, B16, T16⟩ := nw S15 h5 (.tup [.ref b3, .ref b4])
    have P5 : Pd (upd H15 b5 (.tup [.ref b3, .ref b4])) (.ref b5) (.tuple [.tuple [.int 0, .int 1], .tuple []]) := .tup upd_same (.cons ((P3.go T15).go T16) (.cons (P4.go T16) .nil))
    generalize upd H15 b5 (.tup [.ref b3, .ref b4]) = H16 at S16 B16 T16 P5 hgr ⊢
    obtain ⟨S17, B17, T17⟩ := nw S16 hgr (.tup [.ref b2, .int r4, .ref b5])
    have TG := ((((B13.tu S12).trans T14).trans T15).trans T16).trans T17
    have PG : Pd (upd H16 gr (.tup [.ref b2, .int r4, .ref b5])) (.ref gr) (.tuple [.tuple [.tuple [.int 0, .int 3]], .int r4, .tuple [.tuple [.int 0, .int 1], .tuple []]]) :=
      .tup upd_same (.cons (P2.go TG) (.cons (.int _) (.cons (P5.go T17) .nil)))
    generalize upd H16 gr (.tup [.ref b2, .int r4, .ref b5]) = H17 at S17 B17 T17 TG PG ⊢
    have AB := (((((B11.trans B12).trans B13).trans B14).trans B15).trans B16).trans B17
    have PF := PF.go (AB.tu S10)
    have A17 := A10.trans AB
    clear AB A10 B11 B12 B13 B14 B15 B16 B17 T11 T12 T14 T15 T16 T17 TG P1 P2 P3 P4 P5 S11 S12 S13 S14 S15 S16 S10
    -- line
    refine ⟨_, rfl, _, rfl, .ref fr, .ref gr, rfl, fun l e H18 s18 el ee => ?_⟩
    have PF := PF.go (Tu.of s18)
    have PG := PG.go (Tu.of s18)
    have S18 := S17.keep s18
    have A18 := A17.trans (Bt.of s18)
    clear A17 s18 S17
    refine ⟨fun b H' => b = false ∧ Bt p H1 H', ?_, ?_⟩
    · refine ⟨_, rfl, _, rfl, _, rfl, _, rfl, _, rfl, Nat.zero_le _, fun e2 he2 => ⟨(by show 6 ≤ sizeLine; decide), fun l2 hl2 => ?_⟩⟩
      obtain ⟨S19, B19, T19⟩ := nw S18 he2 (.tup [])
      have P4 : Pd (upd H18 e2 (.tup [])) (.ref e2) (.tuple []) := .tup upd_same .nil
      generalize upd H18 e2 (.tup []) = H19 at S19 B19 T19 P4 hl2 ⊢
      obtain ⟨S20, B20, T20⟩ := nw S19 hl2 (.tup [.ref fr, .ref gr, .ref fr, .ref gr, .ref e2, .bl false])
      have T := T19.trans T20
      have PF := PF.go T
      have PG := PG.go T
      have el2 := T _ _ el
      have PL : Pd (upd H19 l2 (.tup [.ref fr, .ref gr, .ref fr, .ref gr, .ref e2, .bl false])) (.ref l2) (.tuple [_, _, _, _, _, .bool false]) := .tup upd_same (.cons PF (.cons PG (.cons PF (.cons PG (.cons (P4.go T20) (.cons (.bl _) .nil))))))
      have PL1 : Pd (upd H19 l2 (.tup [.ref fr, .ref gr, .ref fr, .ref gr, .ref e2, .bl false])) (.ref l) (.tuple [_, _, _, _, _, .bool false]) := .tup el2 (.cons PF (.cons PG (.cons PF (.cons PG (.cons (.tup (T _ _ ee) .nil) (.cons (.bl _) .nil))))))
      refine ⟨_, _, PL1.dp, PL.dp, rfl, rfl, _, rfl, ifF (by rw [PL.eqv]; rfl) ?_⟩
      refine ⟨_, rfl, l, _, _, .bl false, rfl, rfl, SqT.of el2, rfl, _, .ty "bool", _, _, true, rfl, .ty "bool", .base (.bl _), kit_ty (by decide +kernel), _, rfl, rfl, ?_⟩
      exact (A18.trans B19).trans B20
    · rintro _ H21 ⟨rfl, A21⟩
      refine iteF ⟨_, _, _, _, _, _, _, _, _, rfl, sT _ A21⟩
  · rintro σ H' ⟨x1, x2, x3, x4, x5, x6, x7, x8, x9, rfl, s0⟩
    exact k H'
theorem ok_law_all (D_law : DefAt K mg "law" s_law ["script"]) (T : Txt K mg) (D_first : DefAt K mg "first_line" s_first_line ["frame", "ground"]) (D_hits : DefAt K mg "hits" s_hits ["use", "target"]) (D_cell : DefAt K mg "_law_cell" s_l_cell ["script", "k"])
    (D_source : DefAt K mg "_law_source" s_l_source ["cell", "k"]) (D_pick : DefAt K mg "_law_pick" s_l_pick ["source", "many"]) (D_use : DefAt K mg "_law_use" s_l_use ["source"]) (D_target : DefAt K mg "_law_target" s_l_target ["source", "use"]) : FnOk P w K mg base CX0 3 D_law.f D_law.fd ["script"] (spLaw K) := by
  have C1 : Callee P w K mg base 1 "_law_pick" ["source", "many"] spPick := D_pick.callee (ok_pick D_pick.F T)
  exact ok_law D_law.F T (D_hits.callee (ok_hits D_hits.F T)) (D_first.callee (ok_first D_first.F)) (D_cell.callee (ok_cell D_cell.F T)) (D_source.callee (ok_source D_source.F T)) C1 (D_use.callee (ok_use D_use.F T C1)) (D_target.callee (ok_target D_target.F T C1))
end
theorem all_mk {l : PySem.W.OpenLaw} {w : World} {K : PySem.W.Frag} {h : Heap} {mg : Str → Option Value} {fa f0 f1 f2 f3 f4 f5 f6 f7 : Addr} (X : K.In h) (G : h.Ns mainGlobals mg) (hfa : mg "law" = some (.ref fa))
    {od0 an0 od1 an1 od2 an2 od3 an3 od4 an4 od5 an5 od6 an6 od7 an7 : Option Addr} {sl0 sl1 sl2 sl3 sl4 sl5 sl6 sl7 : Array (Option Value)} {oc0 kV0 dc0 pm0 cd0 ct0 oc1 kV1 dc1 pm1 cd1 ct1 oc2 kV2 dc2 pm2 cd2 ct2 oc3 kV3 dc3 pm3 cd3 ct3 oc4 kV4 dc4 pm4 cd4 ct4 oc5 kV5 dc5 pm5 cd5 ct5 oc6 kV6 dc6 pm6 cd6 ct6 oc7 kV7 dc7 pm7 cd7 ct7 : Value}
    (a0 : PySem.W.nsIn K mainGlobals "first_line" = some (some (.ref f0))) (l0 : K.lookup f0 = some ⟨oc0, od0, .func (PySem.W.fnOf "first_line" "first_line" (defArgs s_first_line) (defBody s_first_line) (defScope s_first_line) .none kV0 dc0 pm0 an0 cd0 ct0), sl0⟩) (c0 : PySem.W.codeIn K cd0 "first_line" = true) (k0 : PySem.W.keepIn K (.ref f0) = true)
    (a1 : PySem.W.nsIn K mainGlobals "hits" = some (some (.ref f1))) (l1 : K.lookup f1 = some ⟨oc1, od1, .func (PySem.W.fnOf "hits" "hits" (defArgs s_hits) (defBody s_hits) (defScope s_hits) .none kV1 dc1 pm1 an1 cd1 ct1), sl1⟩) (c1 : PySem.W.codeIn K cd1 "hits" = true) (k1 : PySem.W.keepIn K (.ref f1) = true)
    (a2 : PySem.W.nsIn K mainGlobals "_law_cell" = some (some (.ref f2))) (l2 : K.lookup f2 = some ⟨oc2, od2, .func (PySem.W.fnOf "_law_cell" "_law_cell" (defArgs s_l_cell) (defBody s_l_cell) (defScope s_l_cell) .none kV2 dc2 pm2 an2 cd2 ct2), sl2⟩) (c2 : PySem.W.codeIn K cd2 "_law_cell" = true) (k2 : PySem.W.keepIn K (.ref f2) = true)
    (a3 : PySem.W.nsIn K mainGlobals "_law_source" = some (some (.ref f3))) (l3 : K.lookup f3 = some ⟨oc3, od3, .func (PySem.W.fnOf "_law_source" "_law_source" (defArgs s_l_source) (defBody s_l_source) (defScope s_l_source) .none kV3 dc3 pm3 an3 cd3 ct3), sl3⟩) (c3 : PySem.W.codeIn K cd3 "_law_source" = true) (k3 : PySem.W.keepIn K (.ref f3) = true)
    (a4 : PySem.W.nsIn K mainGlobals "_law_pick" = some (some (.ref f4))) (l4 : K.lookup f4 = some ⟨oc4, od4, .func (PySem.W.fnOf "_law_pick" "_law_pick" (defArgs s_l_pick) (defBody s_l_pick) (defScope s_l_pick) .none kV4 dc4 pm4 an4 cd4 ct4), sl4⟩) (c4 : PySem.W.codeIn K cd4 "_law_pick" = true) (k4 : PySem.W.keepIn K (.ref f4) = true)
    (a5 : PySem.W.nsIn K mainGlobals "_law_use" = some (some (.ref f5))) (l5 : K.lookup f5 = some ⟨oc5, od5, .func (PySem.W.fnOf "_law_use" "_law_use" (defArgs s_l_use) (defBody s_l_use) (defScope s_l_use) .none kV5 dc5 pm5 an5 cd5 ct5), sl5⟩) (c5 : PySem.W.codeIn K cd5 "_law_use" = true) (k5 : PySem.W.keepIn K (.ref f5) = true)
    (a6 : PySem.W.nsIn K mainGlobals "_law_target" = some (some (.ref f6))) (l6 : K.lookup f6 = some ⟨oc6, od6, .func (PySem.W.fnOf "_law_target" "_law_target" (defArgs s_l_target) (defBody s_l_target) (defScope s_l_target) .none kV6 dc6 pm6 an6 cd6 ct6), sl6⟩) (c6 : PySem.W.codeIn K cd6 "_law_target" = true) (k6 : PySem.W.keepIn K (.ref f6) = true)
    (a7 : PySem.W.nsIn K mainGlobals "law" = some (some (.ref f7))) (l7 : K.lookup f7 = some ⟨oc7, od7, .func (PySem.W.fnOf "law" "law" (defArgs s_law) (defBody s_law) (defScope s_law) .none kV7 dc7 pm7 an7 cd7 ct7), sl7⟩) (c7 : PySem.W.codeIn K cd7 "law" = true) (k7 : PySem.W.keepIn K (.ref f7) = true)
    (z_len : PySem.W.nsIn K mainGlobals "len" = some none)
    (z_int : PySem.W.nsIn K mainGlobals "int" = some none)
    (z_tuple : PySem.W.nsIn K mainGlobals "tuple" = some none)
    (z_range : PySem.W.nsIn K mainGlobals "range" = some none)
    (z_isinstance : PySem.W.nsIn K mainGlobals "isinstance" = some none)
    (z_bool : PySem.W.nsIn K mainGlobals "bool" = some none)
    : ∃ fd : FuncData, (∀ (s : Shared) (v : Value), BindsTo s fd ⟨[v], []⟩ [("script", v)]) ∧ ∀ base : Heap, K.In base → base.Ns mainGlobals mg → FnOk l.prog w K mg base CX0 3 fa fd ["script"] (spLaw K) := by
  have e := hfa.symm.trans (PySem.W.mg_of X G a7)
  cases e
  have T : Txt K mg := ⟨PySem.W.mg_none_of X G z_len, PySem.W.mg_none_of X G z_int, PySem.W.mg_none_of X G z_tuple, PySem.W.mg_none_of X G z_range, PySem.W.mg_none_of X G z_isinstance, PySem.W.mg_none_of X G z_bool⟩
  have F0 := fun_mk (st := s_first_line) l0 c0 k0
  have b0 := F0.binds (ps := ["frame", "ground"]) fun _ _ _ _ _ _ us hl => match us, hl with | [_, _], _ => rfl
  let D0 : DefAt K mg "first_line" s_first_line ["frame", "ground"] := ⟨f0, _, F0, PySem.W.mg_of X G a0, b0⟩
  have F1 := fun_mk (st := s_hits) l1 c1 k1
  have b1 := F1.binds (ps := ["use", "target"]) fun _ _ _ _ _ _ us hl => match us, hl with | [_, _], _ => rfl
  let D1 : DefAt K mg "hits" s_hits ["use", "target"] := ⟨f1, _, F1, PySem.W.mg_of X G a1, b1⟩
  have F2 := fun_mk (st := s_l_cell) l2 c2 k2
  have b2 := F2.binds (ps := ["script", "k"]) fun _ _ _ _ _ _ us hl => match us, hl with | [_, _], _ => rfl
  let D2 : DefAt K mg "_law_cell" s_l_cell ["script", "k"] := ⟨f2, _, F2, PySem.W.mg_of X G a2, b2⟩
  have F3 := fun_mk (st := s_l_source) l3 c3 k3
  have b3 := F3.binds (ps := ["cell", "k"]) fun _ _ _ _ _ _ us hl => match us, hl with | [_, _], _ => rfl
  let D3 : DefAt K mg "_law_source" s_l_source ["cell", "k"] := ⟨f3, _, F3, PySem.W.mg_of X G a3, b3⟩
  have F4 := fun_mk (st := s_l_pick) l4 c4 k4
  have b4 := F4.binds (ps := ["source", "many"]) fun _ _ _ _ _ _ us hl => match us, hl with | [_, _], _ => rfl
  let D4 : DefAt K mg "_law_pick" s_l_pick ["source", "many"] := ⟨f4, _, F4, PySem.W.mg_of X G a4, b4⟩
  have F5 := fun_mk (st := s_l_use) l5 c5 k5
  have b5 := F5.binds (ps := ["source"]) fun _ _ _ _ _ _ us hl => match us, hl with | [_], _ => rfl
  let D5 : DefAt K mg "_law_use" s_l_use ["source"] := ⟨f5, _, F5, PySem.W.mg_of X G a5, b5⟩
  have F6 := fun_mk (st := s_l_target) l6 c6 k6
  have b6 := F6.binds (ps := ["source", "use"]) fun _ _ _ _ _ _ us hl => match us, hl with | [_, _], _ => rfl
  let D6 : DefAt K mg "_law_target" s_l_target ["source", "use"] := ⟨f6, _, F6, PySem.W.mg_of X G a6, b6⟩
  have F7 := fun_mk (st := s_law) l7 c7 k7
  have b7 := F7.binds (ps := ["script"]) fun _ _ _ _ _ _ us hl => match us, hl with | [_], _ => rfl
  let D7 : DefAt K mg "law" s_law ["script"] := ⟨fa, _, F7, PySem.W.mg_of X G a7, b7⟩
  exact ⟨PySem.W.fnOf "law" "law" (defArgs s_law) (defBody s_law) (defScope s_law) .none kV7 dc7 pm7 an7 cd7 ct7, fun s v => .of_eq rfl, fun base _ _ => ok_law_all D7 T D0 D1 D2 D3 D4 D5 D6⟩
end My
open PySem PySem.W PyProof.Rows
set_option maxHeartbeats 0 in
theorem PySem.Challenge.cw_nobodyspeaks_k37_hits_and_first_lines_holds : PySem.Challenge.rw_nobodyspeaks_k37_hits_and_first_lines.Holds := by
  w_on; o_law; k_head; (case hw => w_witness2)
  k_fill
  refine L2.walk_of (l := PySem.Challenge.rw_nobodyspeaks_k37_hits_and_first_lines) (n := 63) (k := 3) (x := "script") (CX := fun _ => L2.CX0) (sp := fun w => My.spLaw _) rfl (by decide) rfl ⟨rfl, by decide, by decide⟩ (fun w h Y => PySem.W.kIn_of Y) ?F (fun _ _ a ns hl _ hS => ⟨a, ns, rfl, hS, hl, fun _ => rfl⟩) (fun _ _ _ _ _ h => h)
  case F =>
    intro w mg fa h KX G hmg
    refine' My.all_mk KX G hmg ?a0 ?l0 ?c0 ?k0 ?a1 ?l1 ?c1 ?k1 ?a2 ?l2 ?c2 ?k2 ?a3 ?l3 ?c3 ?k3 ?a4 ?l4 ?c4 ?k4 ?a5 ?l5 ?c5 ?k5 ?a6 ?l6 ?c6 ?k6 ?a7 ?l7 ?c7 ?k7 ?z_len ?z_int ?z_tuple ?z_range ?z_isinstance ?z_bool
    (case a0 => k_is)
    (case l0 => k_is)
    (case c0 => k_is)
    (case k0 => k_is)
    (case a1 => k_is)
    (case l1 => k_is)
    (case c1 => k_is)
    (case k1 => k_is)
    (case a2 => k_is)
    (case l2 => k_is)
    (case c2 => k_is)
    (case k2 => k_is)
    (case a3 => k_is)
    (case l3 => k_is)
    (case c3 => k_is)
    (case k3 => k_is)
    (case a4 => k_is)
    (case l4 => k_is)
    (case c4 => k_is)
    (case k4 => k_is)
    (case a5 => k_is)
    (case l5 => k_is)
    (case c5 => k_is)
    (case k5 => k_is)
    (case a6 => k_is)
    (case l6 => k_is)
    (case c6 => k_is)
    (case k6 => k_is)
    (case a7 => k_is)
    (case l7 => k_is)
    (case c7 => k_is)
    (case k7 => k_is)
    (case z_len => k_is)
    (case z_int => k_is)
    (case z_tuple => k_is)
    (case z_range => k_is)
    (case z_isinstance => k_is)
    (case z_bool => k_is)

