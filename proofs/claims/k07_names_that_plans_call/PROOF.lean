import PyProof.Rows.All
import Wide.All
import OpenK.AllK
import Wide.FinOn
import HandS.ForMost
import HandS.Walk
import HandS.Codes
import HandS.IsInst
import HandS.Style
import HandS.TupAny
import HandS.FStr
import HandS.CallLocal
import HandS.More
import HandS.Zip
import PySem.Challenge.RW_outgrow_k07_names_that_plans_call
set_option Elab.async false
set_option linter.all false
set_option maxRecDepth 100000
set_option maxHeartbeats 4000000
namespace OG
open PySem PySem.Spec PyProof.Rows L2
open C8 (pss_cut pe_gc)

/-! ### heaps -/
theorem same_new {H : Hp} {p : Addr} {o : HO} (h : H p = none) : Same H (upd H p o) := fun b u e => by
  rw [upd_ne (ne_of_none e h)]
  exact e
/-- only the object at d may differ -/
def But (d : Addr) (H H' : Hp) : Prop := ∀ b, b ≠ d → H' b = H b
theorem But.refl (d : Addr) (H : Hp) : But d H H := fun _ _ => rfl
theorem But.trans {d : Addr} {H H1 H2 : Hp} (a : But d H H1) (b : But d H1 H2) : But d H H2 := fun x h => (b x h).trans (a x h)
theorem but_upd {d : Addr} {H : Hp} {o : HO} : But d H (upd H d o) := fun _ h => upd_ne h
/-- all that was tracked stands as it was, but for what M tells -/
def Sx (M : Addr → Prop) (H H' : Hp) : Prop := ∀ b u, ¬ M b → H b = some u → H' b = some u
theorem Sx.refl (M : Addr → Prop) (H : Hp) : Sx M H H := fun _ _ _ h => h
theorem Sx.trans {M : Addr → Prop} {H H1 H2 : Hp} (a : Sx M H H1) (b : Sx M H1 H2) : Sx M H H2 := fun c u n h => b c u n (a c u n h)
theorem Sx.of_same {M : Addr → Prop} {H H' : Hp} (a : Same H H') : Sx M H H' := fun b u _ h => a b u h
theorem Sx.of_but {M : Addr → Prop} {d : Addr} {H H' : Hp} (a : But d H H') (m : M d) : Sx M H H' := fun b u n h => by
  rw [a b (fun e => n (e ▸ m))]
  exact h
theorem Sx.mono {M N : Addr → Prop} {H H' : Hp} (a : Sx M H H') (h : ∀ b, M b → N b) : Sx N H H' := fun b u n e => a b u (fun m => n (h b m)) e
theorem Sx.upd_in {M : Addr → Prop} {H H' : Hp} {p : Addr} {o : HO} (a : Sx M H H') (m : M p) : Sx M H (upd H' p o) := fun b u n e => by
  have z : b ≠ p := fun z => n (by rw [z]; exact m)
  rw [upd_ne z]
  exact a b u n e
/-- what was not tracked ahead may be written -/
theorem Sx.upd_new {M : Addr → Prop} {H H' : Hp} {p : Addr} {o : HO} (a : Sx M H H') (h : H p = none) : Sx M H (upd H' p o) := fun b u n e => by
  rw [upd_ne (ne_of_none e h)]
  exact a b u n e
theorem Same.upd_new {H H' : Hp} {p : Addr} {o : HO} (a : Same H H') (h : H p = none) : Same H (upd H' p o) := fun b u e => by
  rw [upd_ne (ne_of_none e h)]
  exact a b u e
theorem but_none {d : Addr} {H H' : Hp} (a : But d H H') {p : Addr} (h : H' p = none) (hd : ∃ u, H' d = some u) : H p = none := by
  by_cases e : p = d
  · subst e
    obtain ⟨u, q⟩ := hd
    rw [q] at h
    cases h
  · rw [← a p e]
    exact h
theorem sz {n : Nat} (h : n ≤ 100000) : n ≤ sizeLine := Nat.le_trans h (by decide)
theorem szl {n : Nat} (h : n < 100000) : n < sizeLine := Nat.lt_of_lt_of_le h (by decide)

/-! ### texts -/
abbrev S (l : List Nat) : Str := ⟨l.toArray⟩
abbrev tl (x : Str) : List Nat := x.cps.toList
theorem S_tl (x : Str) : S (tl x) = x := by cases x; rfl
theorem len_tl (x : Str) : x.length = (tl x).length := by simp [Str.length, tl]
theorem len_S (l : List Nat) : (S l).length = l.length := by simp [Str.length, S]
theorem tl_S (l : List Nat) : tl (S l) = l := rfl

/-! ### the drawing -/
/-- the drawing's own list at d: the script's copy at L, a place, a rest, a seed -/
def Dr (H : Hp) (d L : Addr) : Prop := ∃ (ns : List Int) (i r s : Int), H d = some (.lst [.ref L, .int i, .int r, .int s]) ∧ H L = some (.lst (ns.map V.int)) ∧ 0 ≤ i ∧ 0 ≤ r ∧ 0 ≤ s ∧ s < 2147483647
theorem Dr.ne {H : Hp} {d L : Addr} (h : Dr H d L) : L ≠ d := by
  obtain ⟨ns, i, r, s, hd, hL, _⟩ := h
  refine ne_of hL hd fun z => ?_
  have z2 := HO.lst.inj z
  cases ns with
  | nil => cases z2
  | cons n r =>
    have z3 := (List.cons.inj z2).1
    cases z3
theorem Dr.some {H : Hp} {d L : Addr} (h : Dr H d L) : ∃ u, H d = some u := by
  obtain ⟨ns, i, r, s, hd, _⟩ := h
  exact ⟨_, hd⟩
theorem Dr.someL {H : Hp} {d L : Addr} (h : Dr H d L) : ∃ u, H L = Option.some u := by
  obtain ⟨ns, i, r, s, hd, hL, _⟩ := h
  exact ⟨_, hL⟩
theorem Dr.same {H H' : Hp} {d L : Addr} (h : Dr H d L) (a : Same H H') : Dr H' d L := by
  obtain ⟨ns, i, r, s, hd, hL, q⟩ := h
  exact ⟨ns, i, r, s, a _ _ hd, a _ _ hL, q⟩
theorem Dr.at {H H' : Hp} {d L : Addr} (h : Dr H d L) (a : H' d = H d) (b : H' L = H L) : Dr H' d L := by
  obtain ⟨ns, i, r, s, hd, hL, q⟩ := h
  exact ⟨ns, i, r, s, a.trans hd, b.trans hL, q⟩
theorem Dr.upd {H : Hp} {d L p : Addr} {o : HO} (h : Dr H d L) (n1 : p ≠ d) (n2 : p ≠ L) : Dr (upd H p o) d L := h.at (upd_ne n1.symm) (upd_ne n2.symm)
theorem Dr.new {H : Hp} {d L p : Addr} {o : HO} (h : Dr H d L) (n : H p = none) : Dr (L2.upd H p o) d L := h.same (same_new n)
theorem Dr.neNew {H : Hp} {d L p : Addr} (h : Dr H d L) (n : H p = none) : p ≠ d ∧ p ≠ L := by
  obtain ⟨u, q⟩ := h.some
  obtain ⟨u2, q2⟩ := h.someL
  exact ⟨(ne_of_none q n).symm, (ne_of_none q2 n).symm⟩
theorem dr_set {H : Hp} {d L : Addr} {ns : List Int} {i r s : Int} (hL : H L = some (.lst (ns.map V.int))) (ne : L ≠ d) (h1 : 0 ≤ i) (h2 : 0 ≤ r) (h3 : 0 ≤ s) (h4 : s < 2147483647) :
    Dr (upd H d (.lst [.ref L, .int i, .int r, .int s])) d L := ⟨ns, i, r, s, upd_same, by rw [upd_ne ne]; exact hL, h1, h2, h3, h4⟩
/-- _law_take(draw, sides) -/
def spTake : Sp := fun vs H Q _ => ∃ (d L : Addr) (k : Int), vs = [.ref d, .int k] ∧ Dr H d L ∧ 1 ≤ k ∧ k < 1073741824 ∧
  ∀ (g : Int) (H' : Hp), 0 ≤ g → g < k → Dr H' d L → But d H H' → Q (.int g) H'
/-- _law_begin(script) -/
def spBegin (K : PySem.W.Frag) : Sp := fun vs H Q _ => ∃ (a : Addr) (ns : List Int), vs = [.ref a] ∧ SqL K H a (ns.map V.int) ∧
  ∀ (d L : Addr) (H' : Hp), Same H H' → H d = none → H L = none → Dr H' d L → Q (.ref d) H'
/-- _law_pick(draw, row), row a text | a list of texts -/
def spPick (K : PySem.W.Frag) : Sp := fun vs H Q _ => ∃ (d L : Addr) (x : V) (n : Nat), vs = [.ref d, x] ∧ Dr H d L ∧ 0 < n ∧ n < 100000 ∧
  ((∃ z : Str, x = .str z ∧ z.length = n ∧ ∀ (c : Nat) (H' : Hp), c ∈ tl z → Dr H' d L → But d H H' → Q (.str ⟨#[c]⟩) H') ∨
   (∃ (a : Addr) (xs : List V), x = .ref a ∧ a ≠ d ∧ SqL K H a xs ∧ xs.length = n ∧ ∀ (y : V) (H' : Hp), y ∈ xs → Dr H' d L → But d H H' → Q y H'))
/-- what a SqL tells stays where its place is not written -/
theorem SqL.but {K : PySem.W.Frag} {H H' : Hp} {d a : Addr} {xs : List V} (h : SqL K H a xs) (b : But d H H') (n : a ≠ d) : SqL K H' a xs := by
  rcases h with (h | ⟨o, h⟩) | h
  · exact .inl (.inl (by rw [b a n]; exact h))
  · exact .inl (.inr ⟨o, by rw [b a n]; exact h⟩)
  · exact .inr h
theorem SqL.sx {K : PySem.W.Frag} {M : Addr → Prop} {H H' : Hp} {a : Addr} {xs : List V} (h : SqL K H a xs) (b : Sx M H H') (n : ¬ M a) : SqL K H' a xs := by
  rcases h with (h | ⟨o, h⟩) | h
  · exact .inl (.inl (b _ _ n h))
  · exact .inl (.inr ⟨o, b _ _ n h⟩)
  · exact .inr h

theorem mod_lt {a k : Int} (h : 1 ≤ k) : 0 ≤ a % k ∧ a % k < k := ⟨Int.emod_nonneg _ (by omega), Int.emod_lt_of_pos _ (by omega)⟩
theorem atI_lt {α : Type} {xs : List α} {g : Int} (h0 : 0 ≤ g) (h1 : g < (xs.length : Int)) : ∃ v, atI xs g = some v ∧ v ∈ xs := by
  have hk : g.toNat < xs.length := by omega
  have e : g = ((g.toNat : Nat) : Int) := by omega
  refine ⟨xs[g.toNat], ?_, List.getElem_mem hk⟩
  have q : atI xs ((g.toNat : Nat) : Int) = some xs[g.toNat] := atI_nat (List.getElem?_eq_getElem hk)
  rw [← e] at q
  exact q
theorem cut_len (xs : List V) (lo hi : Option Int) : (cutV xs lo hi).length ≤ xs.length := cutV_length xs lo hi
theorem cut_map (ns : List Int) (lo hi : Option Int) : ∃ ms : List Int, cutV (ns.map V.int) lo hi = ms.map V.int := by
  refine ⟨(ns.drop (HT.sIx ns.length 0 lo)).take (HT.sIx ns.length ns.length hi - HT.sIx ns.length 0 lo), ?_⟩
  unfold cutV
  rw [List.length_map, List.map_take, List.map_drop]
/-! ### a comprehension over a text's signs, its element of a plain value -/
theorem lc_str_val {z : Str} {g : TG} {te : TE} {vs : List Nat} {σ : L2.St} {H1 : Hp} {D : Addr} {Qd : Hp → Prop} (f : Nat → V) (i0 : Nat) (hg : g = gName i0) (hw : ∀ v, wipe ((wipe σ vs).set i0 v) vs = wipe σ vs) (hz : z.length < 100000) (hD : H1 D = none)
    (he : ∀ c ∈ tl z, ∀ (H2 : Hp) (Q : VK), Same H1 H2 → Q (f c) H2 → te ((wipe σ vs).set i0 (some (.str ⟨#[c]⟩))) H2 Q)
    (hd : ∀ H', Same H1 H' → H' D = some (.lst ((tl z).map f)) → Qd H') :
    ∃ W : Nat → Nat → Hp → Prop, (∃ m, W 0 m (upd H1 D (.lst []))) ∧ ∀ i m H, W i m H →
      ((Its z).stop i H ∧ Qd H) ∨ ((Its z).go i H ∧ ∃ Nx : Hp → Prop, (∀ H', Nx H' → ∃ m', m' < m ∧ W (i + 1) m' H') ∧ ∀ x H', (Its z).yld i H x H' → g x (wipe σ vs) H' fun σ2 H2 => wipe σ2 vs = wipe σ vs ∧ tYes σ2 H2 fun b H3 =>
        if b = true then te σ2 H3 fun y H4 => ∃ acc, H4 D = some (.lst acc) ∧ acc.length < sizeLine ∧ Nx (upd H4 D (.lst (acc ++ [y]))) else Nx H3) := by
  subst hg
  have el : z.cps.size = (tl z).length := by simp [tl]
  refine lc_it walk_str (fun i H' => Same H1 H' ∧ H' D = some (.lst (((tl z).take i).map f))) ⟨same_new hD, by rw [upd_same]; rfl⟩ (fun _ _ _ _ => trivial) (fun i x H H' hi hP hY => ?_) (fun H' hP => ?_)
  · obtain ⟨rfl, c, hc, rfl⟩ := hY
    obtain ⟨sm, hl⟩ := hP
    have hc2 : (tl z)[i]? = some c := by
      have q : z.cps.toList[i]? = z.cps[i]? := by simp
      exact q.trans hc
    refine ⟨hw _, ?_⟩
    dsimp only [tYes]
    rw [if_pos rfl]
    refine he c (List.mem_of_getElem? hc2) _ _ sm ?_
    refine ⟨_, hl, ?_, ?_, ?_⟩
    · rw [List.length_map, List.length_take]
      have := len_tl z
      exact szl (by omega)
    · exact Same.upd_new sm hD
    · rw [upd_same, List.take_add_one, hc2, List.map_append]
      rfl
  · obtain ⟨sm, hl⟩ := hP
    refine hd H' sm ?_
    rw [el, List.take_length] at hl
    exact hl
theorem yes_go {σ : L2.St} {H : Hp} {A B : Hp → Prop} (h : A H) : tYes σ H (fun b H3 => if b = true then A H3 else B H3) := h
theorem len_app (a b : Str) : (a ++ b).length = a.length + b.length := PySem.Str.length_append a b
theorem join1_len : ∀ cs : List Nat, (TL.joinL [] (cs.map fun c => [c])) = cs
  | [] => rfl
  | [c] => rfl
  | c :: e :: r => by
    have ih := join1_len (e :: r)
    show [c] ++ ([] ++ TL.joinL [] ((e :: r).map fun c => [c])) = c :: e :: r
    rw [ih]
    rfl
/-- ''.join of signs -/
theorem join_signs (cs : List Nat) : Txt.join "" (cs.map fun c => S [c]) = S cs := by
  have e := SX.join_S [] (cs.map fun c => [c])
  rw [join1_len, List.map_map] at e
  exact e
theorem sum_ones : ∀ cs : List Nat, ((cs.map fun c => S [c]).map (·.length)).sum = cs.length
  | [] => rfl
  | c :: r => by
    rw [List.map_cons, List.map_cons, List.sum_cons, sum_ones r, len_S, List.length_cons, List.length_cons]
    simp
    omega
theorem cutS_len (z : Str) (lo hi : Option Int) : (cutS z lo hi).length ≤ z.length := by
  unfold cutS
  rw [len_S, List.length_take, List.length_drop]
  have := len_tl z
  unfold tl at this
  omega
/-! ### rules with the written part by its name, for a comprehension's block -/
section
variable {X : Cx} {K : PySem.W.Frag}
theorem ix_listK (h : X.K = K) : IxR X (rIxL K) := h ▸ ix_list
theorem ix_tupK (h : X.K = K) : IxR X (rIxT K) := h ▸ ix_tup
theorem ix_seqK (h : X.K = K) : IxR X (rIx K) := h ▸ ix_seq
theorem op_in_seqK (h : X.K = K) : OpR X (compareOp .In) (rIn K false) := h ▸ op_in_seq
theorem op_notIn_seqK (h : X.K = K) : OpR X (compareOp .NotIn) (rIn K true) := h ▸ op_notIn_seq
theorem op_eqDK (h : X.K = K) (hu : X.A.units + 64 < cLine) : OpR X (compareOp .Eq) (rEqD K) := h ▸ op_eqD hu
theorem op_neDK (h : X.K = K) (hu : X.A.units + 64 < cLine) : OpR X (compareOp .NotEq) (rNeD K) := h ▸ op_neD hu
theorem sl_listK (h : X.K = K) : SlR X (rSlL K) := h ▸ sl_list
theorem call_len_seqK (h : X.K = K) : CallR X (.builtin "len") (fun xs H Q => ∃ p ys, xs = [.ref p] ∧ (SqL K H p ys ∨ SqT K H p ys) ∧ Q (.int ys.length) H) := by
  subst h
  exact call_len_seq
end
end OG

set_option Elab.async false
set_option linter.all false
set_option maxRecDepth 100000
set_option maxHeartbeats 4000000
namespace OG
open PySem PySem.Spec PyProof.Rows L2
/-! ### text * number -/
def rRepS : R2 := fun x y H Q => ∃ (z : Str) (k : Int), x = .str z ∧ y = .int k ∧ -(2 ^ 62) ≤ k ∧ k < 2 ^ 62 ∧ z.length * k.toNat ≤ 100000 ∧ Q (.str (S (List.replicate k.toNat (tl z)).flatten)) H
theorem fold_rep (a : Array Nat) : ∀ (k : Nat) (acc : Array Nat), (List.foldl (fun x y => x ++ y) acc (List.replicate k a)) = acc ++ (List.replicate k a.toList).flatten.toArray
  | 0, acc => by simp
  | k + 1, acc => by
    rw [List.replicate_succ, List.foldl_cons, fold_rep a k (acc ++ a), List.replicate_succ, List.flatten_cons, Array.append_assoc]
    congr 1
    apply Array.ext'
    simp
theorem op_repS {X : Cx} : OpR X (binaryOp .Mult) rRepS := by
  intro pins s σ H x y v u Q I rx ry h
  obtain ⟨z, k, rfl, rfl, h1, h2, hz, q⟩ := h
  obtain ⟨t, rfl⟩ := rx
  obtain ⟨t', rfl⟩ := ry
  refine PySem.P.mul_str ?_ (fun a b => ?_) (fun a b => ?_) ?_
  · rw [decide_eq_false (by omega), decide_eq_false (by omega)]; rfl
  · have hk : 0 < k := by omega
    have e : ((z.length * k.toNat : Nat) : Int) ≤ 100000 := Int.ofNat_le.mpr hz
    have e2 : ((z.length * k.toNat : Nat) : Int) = (z.length : Int) * k := by
      rw [Int.natCast_mul, Int.toNat_of_nonneg (by omega)]
    intro hc
    have h3 : (z.length : Int) ≤ (2 ^ 63 - 1) / k := by
      rw [Int.le_ediv_iff_mul_le hk]
      rw [← e2]
      omega
    omega
  · unfold PySem.Builtin.Str.tooLong
    exact decide_eq_false (Nat.not_lt.mpr (sz hz))
  · by_cases c1 : k < 1
    · rw [if_pos c1]
      have e : k.toNat = 0 := by omega
      rw [e] at q
      exact ⟨by decide, .str Str.empty, H, I.tok _, ⟨_, rfl⟩, q⟩
    · rw [if_neg c1]
      by_cases c2 : (k == 1 || z.length == 0) = true
      · rw [if_pos c2]
        have e : S (List.replicate k.toNat (tl z)).flatten = z := by
          rcases Bool.or_eq_true_iff.mp c2 with c3 | c3
          · have e1 : k = 1 := by simpa using c3
            rw [e1]
            show S ((tl z) ++ []) = z
            rw [List.append_nil, S_tl]
          · have e1 : z.length = 0 := by simpa using c3
            have e2 : tl z = [] := List.eq_nil_of_length_eq_zero (by rw [← len_tl]; exact e1)
            have e3 : ∀ n : Nat, (List.replicate n ([] : List Nat)).flatten = [] := fun n => by
              induction n with
              | zero => rfl
              | succ n ih => rw [List.replicate_succ, List.flatten_cons, ih]; rfl
            rw [e2, e3, ← e2, S_tl]
        rw [e] at q
        exact ⟨.str z, H, I, ⟨_, rfl⟩, q⟩
      · rw [if_neg c2]
        have e : (⟨(List.replicate k.toNat z.cps).foldl (· ++ ·) #[]⟩ : Str) = S (List.replicate k.toNat (tl z)).flatten := by
          have := fold_rep z.cps k.toNat #[]
          rw [this]
          simp [S, tl]
        rw [e]
        refine ⟨?_, .str _, H, I.tok _, ⟨_, rfl⟩, q⟩
        have : (S (List.replicate k.toNat (tl z)).flatten).length ≤ 100000 := by
          rw [len_S, List.length_flatten]
          rw [List.map_replicate, List.sum_replicate_nat, Nat.mul_comm]
          rw [← len_tl]
          exact hz
        first
          | exact sz this
          | (unfold PySem.Builtin.Str.tooLong; exact decide_eq_false (Nat.not_lt.mpr (sz this)))
          | (show _ = _; unfold PySem.Builtin.Str.tooLong; exact decide_eq_false (Nat.not_lt.mpr (sz this)))
end OG

set_option Elab.async false
set_option linter.all false
set_option maxRecDepth 100000
set_option maxHeartbeats 4000000
namespace OG
open PySem PySem.Spec PyProof.Rows L2

/-! ### data of tuples -/
inductive D where
  | non
  | bl (b : Bool)
  | int (n : Int)
  | str (z : Str)
  | tup (xs : List D)
mutual
/-- v stands for the datum -/
def Rp (H : Hp) : V → D → Prop
  | v, .non => v = .non
  | v, .bl b => v = .bl b
  | v, .int n => v = .int n
  | v, .str z => v = .str z
  | v, .tup xs => ∃ (a : Addr) (vs : List V), v = .ref a ∧ H a = some (.tup vs) ∧ RpL H vs xs
def RpL (H : Hp) : List V → List D → Prop
  | vs, [] => vs = []
  | vs, x :: xs => ∃ (v : V) (r : List V), vs = v :: r ∧ Rp H v x ∧ RpL H r xs
end
/-- tuples stay -/
def Imm (H H' : Hp) : Prop := ∀ b xs, H b = some (.tup xs) → H' b = some (.tup xs)
theorem Imm.refl (H : Hp) : Imm H H := fun _ _ h => h
theorem Imm.trans {H H1 H2 : Hp} (a : Imm H H1) (b : Imm H1 H2) : Imm H H2 := fun c xs h => b c xs (a c xs h)
theorem Imm.same {H H' : Hp} (a : Same H H') : Imm H H' := fun b xs h => a b _ h
theorem Imm.upd {H H' : Hp} {p : Addr} {o : HO} (a : Imm H H') (n : ∀ xs, H p ≠ some (.tup xs)) : Imm H (upd H' p o) := fun b xs h => by
  have e : b ≠ p := fun z => n xs (by rw [← z]; exact h)
  rw [upd_ne e]
  exact a b xs h
theorem Imm.but {H H' : Hp} {d : Addr} {l : List V} (a : But d H H') (h : H d = some (.lst l)) : Imm H H' := fun b xs e => by
  have n : b ≠ d := fun z => by
    rw [z, h] at e
    cases e
  rw [a b n]
  exact e
theorem Dr.imm {H H' : Hp} {d L : Addr} (h : Dr H d L) (a : But d H H') : Imm H H' := by
  obtain ⟨ns, i, r, s, hd, _⟩ := h
  exact Imm.but a hd
mutual
theorem Rp.imm {H H' : Hp} (m : Imm H H') : ∀ (x : D) (v : V), Rp H v x → Rp H' v x
  | .non, _, h => h
  | .bl _, _, h => h
  | .int _, _, h => h
  | .str _, _, h => h
  | .tup xs, _, h => by
    obtain ⟨a, vs, e, q, r⟩ := h
    exact ⟨a, vs, e, m _ _ q, RpL.imm m xs vs r⟩
theorem RpL.imm {H H' : Hp} (m : Imm H H') : ∀ (xs : List D) (vs : List V), RpL H vs xs → RpL H' vs xs
  | [], _, h => h
  | x :: xs, _, h => by
    obtain ⟨v, r, e, q, t⟩ := h
    exact ⟨v, r, e, Rp.imm m x v q, RpL.imm m xs r t⟩
end
theorem Rp.to {H H' : Hp} {x : D} {v : V} (h : Rp H v x) (m : Imm H H') : Rp H' v x := Rp.imm m x v h
theorem RpL.to {H H' : Hp} {xs : List D} {vs : List V} (h : RpL H vs xs) (m : Imm H H') : RpL H' vs xs := RpL.imm m xs vs h
theorem RpL.length {H : Hp} : ∀ {xs : List D} {vs : List V}, RpL H vs xs → vs.length = xs.length
  | [], _, h => by rw [show _ = [] from h]; rfl
  | x :: xs, _, h => by
    obtain ⟨v, r, e, _, t⟩ := h
    rw [e, List.length_cons, List.length_cons, RpL.length t]
theorem RpL.get {H : Hp} : ∀ {xs : List D} {vs : List V} {i : Nat} {v : V}, RpL H vs xs → vs[i]? = some v → ∃ x, xs[i]? = some x ∧ Rp H v x
  | [], _, i, v, h, g => by
    rw [show _ = [] from h] at g
    simp at g
  | x :: xs, _, 0, v, h, g => by
    obtain ⟨u, r, e, q, t⟩ := h
    rw [e] at g
    have : u = v := Option.some.inj g
    exact ⟨x, rfl, this ▸ q⟩
  | x :: xs, _, i + 1, v, h, g => by
    obtain ⟨u, r, e, q, t⟩ := h
    rw [e] at g
    exact RpL.get (xs := xs) (i := i) t g
theorem RpL.append {H : Hp} : ∀ {xs ys : List D} {vs ws : List V}, RpL H vs xs → RpL H ws ys → RpL H (vs ++ ws) (xs ++ ys)
  | [], _, _, _, h, k => by rw [show _ = [] from h]; exact k
  | x :: xs, ys, _, ws, h, k => by
    obtain ⟨u, r, e, q, t⟩ := h
    rw [e]
    exact ⟨u, r ++ ws, rfl, q, RpL.append t k⟩
theorem RpL.take {H : Hp} : ∀ {xs : List D} {vs : List V} (n : Nat), RpL H vs xs → RpL H (vs.take n) (xs.take n)
  | _, _, 0, _ => rfl
  | [], _, n + 1, h => by rw [show _ = [] from h]; rfl
  | x :: xs, _, n + 1, h => by
    obtain ⟨u, r, e, q, t⟩ := h
    rw [e]
    exact ⟨u, r.take n, rfl, q, RpL.take n t⟩
theorem RpL.drop {H : Hp} : ∀ {xs : List D} {vs : List V} (n : Nat), RpL H vs xs → RpL H (vs.drop n) (xs.drop n)
  | _, _, 0, h => h
  | [], _, n + 1, h => by rw [show _ = [] from h]; rfl
  | x :: xs, _, n + 1, h => by
    obtain ⟨u, r, e, q, t⟩ := h
    rw [e]
    exact RpL.drop n t
theorem rpl_nil {H : Hp} : RpL H [] [] := rfl
theorem rpl_cons {H : Hp} {v : V} {vs : List V} {x : D} {xs : List D} (h : Rp H v x) (t : RpL H vs xs) : RpL H (v :: vs) (x :: xs) := ⟨v, vs, rfl, h, t⟩
theorem rp_tup {H : Hp} {a : Addr} {vs : List V} {xs : List D} (h : H a = some (.tup vs)) (t : RpL H vs xs) : Rp H (.ref a) (.tup xs) := ⟨a, vs, rfl, h, t⟩
theorem rp_t2 {H : Hp} {v : V} {x y : D} (h : Rp H v (.tup [x, y])) : ∃ a v1 v2, v = .ref a ∧ H a = some (.tup [v1, v2]) ∧ Rp H v1 x ∧ Rp H v2 y := by
  obtain ⟨a, vs, e, q, v1, r1, rfl, h1, v2, r2, rfl, h2, rfl⟩ := h
  exact ⟨a, v1, v2, e, q, h1, h2⟩
theorem rp_t3 {H : Hp} {v : V} {x y z : D} (h : Rp H v (.tup [x, y, z])) : ∃ a v1 v2 v3, v = .ref a ∧ H a = some (.tup [v1, v2, v3]) ∧ Rp H v1 x ∧ Rp H v2 y ∧ Rp H v3 z := by
  obtain ⟨a, vs, e, q, v1, r1, rfl, h1, v2, r2, rfl, h2, v3, r3, rfl, h3, rfl⟩ := h
  exact ⟨a, v1, v2, v3, e, q, h1, h2, h3⟩
theorem rp_t5 {H : Hp} {v : V} {x y z u w : D} (h : Rp H v (.tup [x, y, z, u, w])) : ∃ a v1 v2 v3 v4 v5, v = .ref a ∧ H a = some (.tup [v1, v2, v3, v4, v5]) ∧ Rp H v1 x ∧ Rp H v2 y ∧ Rp H v3 z ∧ Rp H v4 u ∧ Rp H v5 w := by
  obtain ⟨a, vs, e, q, v1, r1, rfl, h1, v2, r2, rfl, h2, v3, r3, rfl, h3, v4, r4, rfl, h4, v5, r5, rfl, h5, rfl⟩ := h
  exact ⟨a, v1, v2, v3, v4, v5, e, q, h1, h2, h3, h4, h5⟩

/-! ### names -/
def kept : List Str := ["step", "for", "from", "to", "if", "else", "double", "call", "with", "again", "on", "halves", "thirds", "less", "n"]
theorem kept_split : (Txt.split "step for from to if else double call with again on halves thirds less n" " ") = kept := by decide +kernel
def spKept : Sp := fun vs H Q _ => vs = [] ∧ ∀ (p : Addr) (H' : Hp), H p = none → H' = upd H p (.lst (kept.map V.str)) → Q (.ref p) H'
def abc : List Nat := tl "abcdefghijklmnopqrstuvwxyz"
/-- whether a text is a name -/
def nameB (z : Str) : Bool := (!inV (.str z) (kept.map V.str) && (decide ((1 : Int) ≤ (z.length : Int)) && decide ((z.length : Int) ≤ 8))) && ((tl z).map (fun c => decide (c ∈ tl "abcdefghijklmnopqrstuvwxyz"))).all id
def spName : Sp := fun vs H Q _ => ∃ z : Str, vs = [.str z] ∧ z.length < 100000 ∧ ∀ H', Same H H' → Q (.bl (nameB z)) H'
theorem inV_str (z : Str) : ∀ ys : List Str, inV (.str z) (ys.map V.str) = decide (z ∈ ys)
  | [] => rfl
  | y :: r => by
    have ih := inV_str z r
    unfold inV at ih ⊢
    rw [List.map_cons, List.any_cons, ih]
    show ((y == z) || decide (z ∈ r)) = decide (z ∈ y :: r)
    by_cases h : y = z
    · subst h
      simp
    · have h2 : (y == z) = false := by simpa using h
      have h3 : ¬ z = y := fun e => h e.symm
      rw [h2, Bool.false_or]
      by_cases h4 : z ∈ r
      · rw [decide_eq_true h4, decide_eq_true (List.mem_cons_of_mem _ h4)]
      · rw [decide_eq_false h4, decide_eq_false (fun h5 => (List.mem_cons.mp h5).elim h3 h4)]
theorem name_of {cs : List Nat} (h0 : 1 ≤ cs.length) (h8 : cs.length ≤ 8) (hk : S cs ∉ kept) (hc : ∀ c ∈ cs, c ∈ abc) : nameB (S cs) = true := by
  unfold nameB
  rw [inV_str, decide_eq_false hk, len_S]
  rw [decide_eq_true (by omega), decide_eq_true (by omega)]
  have : ((tl (S cs)).map (fun c => decide (c ∈ tl "abcdefghijklmnopqrstuvwxyz"))).all id = true := by
    rw [List.all_eq_true]
    intro b hb
    obtain ⟨c, hc2, rfl⟩ := List.mem_map.mp hb
    exact decide_eq_true (hc c hc2)
  rw [this]
  rfl
theorem name_len {z : Str} (h : nameB z = true) : 1 ≤ z.length ∧ z.length ≤ 8 := by
  unfold nameB at h
  simp only [Bool.and_eq_true, decide_eq_true_eq] at h
  omega
theorem name_abc {z : Str} (h : nameB z = true) : ∀ c ∈ tl z, c ∈ abc := by
  unfold nameB at h
  have h2 := (Bool.and_eq_true_iff.mp h).2
  rw [List.all_eq_true] at h2
  intro c hc
  exact of_decide_eq_true (h2 _ (List.mem_map.mpr ⟨c, hc, rfl⟩))
theorem name_kept {z : Str} (h : nameB z = true) : z ∉ kept := by
  unfold nameB at h
  rw [inV_str] at h
  intro hk
  rw [decide_eq_true hk] at h
  cases h
theorem name_two : ∀ c ∈ abc, nameB (S [c, c]) = true := by
  have h : abc.all (fun c => nameB (S [c, c])) = true := by decide +kernel
  exact fun c hc => List.all_eq_true.mp h c hc

/-! ### plans -/
inductive Thing where
  | step (k : Int)
  | loop (x : Str) (a b : Str × Int) (body : List Thing)
  | test (a b : Str × Int) (x y : List Thing)
  | twice (body : List Thing)
  | call (x : Str) (e : Str × Int)
  | again (k : Int) (w : Str)
def encE (e : Str × Int) : D := .tup [.str e.1, .int e.2]
mutual
def enc : Thing → D
  | .step k => .tup [.str "step", .int k]
  | .loop x a b body => .tup [.str "for", .str x, encE a, encE b, .tup (encs body)]
  | .test a b x y => .tup [.str "if", encE a, encE b, .tup (encs x), .tup (encs y)]
  | .twice b => .tup [.str "double", .tup (encs b)]
  | .call x e => .tup [.str "call", .str x, encE e]
  | .again k w => .tup [.str "again", .int k, .str w]
def encs : List Thing → List D
  | [] => []
  | t :: r => enc t :: encs r
end
theorem encs_map : ∀ ts : List Thing, encs ts = ts.map enc
  | [] => rfl
  | t :: r => by
    show enc t :: encs r = enc t :: r.map enc
    rw [encs_map r]
theorem encs_append (a b : List Thing) : encs (a ++ b) = encs a ++ encs b := by rw [encs_map, encs_map, encs_map, List.map_append]
theorem encs_length (ts : List Thing) : (encs ts).length = ts.length := by rw [encs_map, List.length_map]
/-- an end that may stand where the names sc may -/
def EndOk (sc : List Str) (e : Str × Int) : Prop := (e.1 = "" ∧ 0 ≤ e.2 ∧ e.2 ≤ 99) ∨ (e.1 ∈ sc ∧ -99 ≤ e.2 ∧ e.2 ≤ 99)
def ScOk (sc : List Str) : Prop := ∀ x ∈ sc, x = "n" ∨ nameB x = true
def AgOk (k : Int) (w : Str) : Prop := 1 ≤ k ∧ k ≤ 9 ∧ (w = "halves" ∨ w = "thirds" ∨ w = "less")
mutual
/-- a thing with at most n brackets within one another, calling only what C tells; again only where A does -/
def TOk (C : Str → Prop) (A : Prop) : List Str → Nat → Thing → Prop
  | _, _, .step k => 0 ≤ k ∧ k ≤ 99
  | sc, n, .loop x a b body => nameB x = true ∧ x ∉ sc ∧ EndOk sc a ∧ EndOk sc b ∧ body ≠ [] ∧ ∃ m, n = m + 1 ∧ TsOk C A (sc ++ [x]) m body
  | sc, n, .test a b x y => EndOk sc a ∧ EndOk sc b ∧ x ≠ [] ∧ ∃ m, n = m + 1 ∧ TsOk C A sc m x ∧ TsOk C A sc m y
  | sc, n, .twice b => b ≠ [] ∧ ∃ m, n = m + 1 ∧ TsOk C A sc m b
  | sc, _, .call x e => nameB x = true ∧ C x ∧ EndOk sc e
  | _, _, .again k w => A ∧ AgOk k w
def TsOk (C : Str → Prop) (A : Prop) : List Str → Nat → List Thing → Prop
  | _, _, [] => True
  | sc, n, t :: r => TOk C A sc n t ∧ TsOk C A sc n r
end
theorem tsok_iff {C : Str → Prop} {A : Prop} {sc : List Str} {n : Nat} : ∀ ts : List Thing, TsOk C A sc n ts ↔ ∀ t ∈ ts, TOk C A sc n t
  | [] => ⟨fun _ _ h => (by cases h), fun _ => trivial⟩
  | t :: r => by
    show (TOk C A sc n t ∧ TsOk C A sc n r) ↔ _
    rw [tsok_iff r]
    constructor
    · rintro ⟨h1, h2⟩ u hu
      rcases List.mem_cons.mp hu with rfl | hu
      · exact h1
      · exact h2 u hu
    · intro h
      exact ⟨h t List.mem_cons_self, fun u hu => h u (List.mem_cons_of_mem _ hu)⟩
mutual
def cntT : Thing → Nat
  | .step _ => 1
  | .loop _ _ _ b => 1 + cntB b
  | .test _ _ x y => 1 + cntB x + cntB y
  | .twice b => 1 + cntB b
  | .call _ _ => 1
  | .again _ _ => 1
def cntB : List Thing → Nat
  | [] => 0
  | t :: r => cntT t + cntB r
end
theorem cntB_append : ∀ a b : List Thing, cntB (a ++ b) = cntB a + cntB b
  | [], b => by show cntB b = 0 + cntB b; omega
  | t :: r, b => by
    show cntT t + cntB (r ++ b) = cntT t + cntB r + cntB b
    rw [cntB_append r b]
    omega

/-! ### a plan's text -/
def numL (i : Int) : List Nat := tl (toString i)
def endL (e : Str × Int) : List Nat :=
  if e.1 = "" then numL e.2 else if e.2 = 0 then tl e.1 else if 0 < e.2 then tl e.1 ++ tl " + " ++ numL e.2 else tl e.1 ++ tl " - " ++ numL (-e.2)
mutual
def thingL : Thing → List Nat
  | .step k => tl "step " ++ numL k
  | .loop x a b body => tl "for " ++ tl x ++ tl " from " ++ endL a ++ tl " to " ++ endL b ++ tl " (" ++ TL.joinL (tl "; ") (thingsL body) ++ tl ")"
  | .test a b x y => tl "if " ++ endL a ++ tl " <= " ++ endL b ++ tl " (" ++ TL.joinL (tl "; ") (thingsL x) ++ tl ")" ++ (match y with
    | [] => []
    | t :: r => tl " else (" ++ TL.joinL (tl "; ") (thingsL (t :: r)) ++ tl ")")
  | .twice b => tl "double (" ++ TL.joinL (tl "; ") (thingsL b) ++ tl ")"
  | .call x e => tl "call " ++ tl x ++ tl " with " ++ endL e
  | .again k w => tl "again " ++ numL k ++ tl " on " ++ tl w
def thingsL : List Thing → List (List Nat)
  | [] => []
  | t :: r => thingL t :: thingsL r
end
def planL (ts : List Thing) : List Nat := TL.joinL (tl "; ") (thingsL ts)
theorem thingsL_map : ∀ ts : List Thing, thingsL ts = ts.map thingL
  | [] => rfl
  | t :: r => by
    show thingL t :: thingsL r = thingL t :: r.map thingL
    rw [thingsL_map r]
theorem str_ext {a b : Str} (h : tl a = tl b) : a = b := by rw [← S_tl a, ← S_tl b, h]
theorem tl_app (a b : Str) : tl (a ++ b) = tl a ++ tl b := TL.tl_append a b
theorem tl_empty : tl Str.empty = [] := rfl
/-! sizes -/
theorem num_small {i : Int} (h0 : -99 ≤ i) (h1 : i ≤ 99) : (numL i).length ≤ 3 ∧ i.natAbs.log2 < 1920 := by
  have e : ∀ n : Nat, n < 199 → (numL ((n : Int) - 99)).length ≤ 3 ∧ ((n : Int) - 99).natAbs.log2 < 1920 := by
    have h : (List.range 199).all (fun n => decide ((numL ((n : Int) - 99)).length ≤ 3) && decide (((n : Int) - 99).natAbs.log2 < 1920)) = true := by decide +kernel
    intro n hn
    have := List.all_eq_true.mp h n (List.mem_range.mpr hn)
    simpa only [Bool.and_eq_true, decide_eq_true_eq] using this
  have q := e (i + 99).toNat (by omega)
  have e2 : (((i + 99).toNat : Nat) : Int) - 99 = i := by omega
  rw [e2] at q
  exact q
theorem end_small {sc : List Str} {e : Str × Int} (hs : ScOk sc) (h : EndOk sc e) : (endL e).length ≤ 14 ∧ e.1.length ≤ 8 ∧ -99 ≤ e.2 ∧ e.2 ≤ 99 := by
  have hl : e.1.length ≤ 8 ∧ -99 ≤ e.2 ∧ e.2 ≤ 99 := by
    rcases h with ⟨h1, h2, h3⟩ | ⟨h1, h2, h3⟩
    · rw [h1]
      exact ⟨by decide +kernel, by omega, h3⟩
    · rcases hs _ h1 with h4 | h4
      · rw [h4]
        exact ⟨by decide +kernel, h2, h3⟩
      · exact ⟨(name_len h4).2, h2, h3⟩
  refine ⟨?_, hl⟩
  have n1 := (num_small hl.2.1 hl.2.2).1
  have n2 := (num_small (i := -e.2) (by omega) (by omega)).1
  have l1 := len_tl e.1
  have p1 : (tl " + ").length = 3 := by decide +kernel
  have p2 : (tl " - ").length = 3 := by decide +kernel
  unfold endL
  split
  · omega
  · split
    · omega
    · split
      · rw [List.length_append, List.length_append]
        omega
      · rw [List.length_append, List.length_append]
        omega
end OG

set_option Elab.async false
set_option linter.all false
set_option maxRecDepth 100000
set_option maxHeartbeats 4000000
namespace OG
open PySem PySem.Spec PyProof.Rows L2
/-! ### sizes of texts -/
theorem joinL_len (s : List Nat) : ∀ ls : List (List Nat), (TL.joinL s ls).length ≤ (ls.map (fun l => l.length + s.length)).sum
  | [] => Nat.le_refl _
  | [p] => by
    show p.length ≤ (p.length + s.length) + 0
    omega
  | p :: q :: r => by
    have ih := joinL_len s (q :: r)
    show (p ++ (s ++ TL.joinL s (q :: r))).length ≤ (p.length + s.length) + ((q :: r).map (fun l => l.length + s.length)).sum
    rw [List.length_append, List.length_append]
    omega
theorem scOk_snoc {sc : List Str} {x : Str} (h : ScOk sc) (n : nameB x = true) : ScOk (sc ++ [x]) := fun y hy => by
  rcases List.mem_append.mp hy with h1 | h1
  · exact h y h1
  · rw [List.mem_singleton.mp h1]
    exact .inr n
mutual
theorem thing_size {C : Str → Prop} {A : Prop} : ∀ (t : Thing) (sc : List Str) (n : Nat), TOk C A sc n t → ScOk sc → (thingL t).length + 2 ≤ 80 * cntT t
  | .step k, sc, n, h, hs => by
    have e := (num_small (i := k) (by have := h.1; omega) h.2).1
    have c : (tl "step ").length = 5 := by decide +kernel
    show (tl "step " ++ numL k).length + 2 ≤ 80 * 1
    rw [List.length_append]
    omega
  | .loop x a b body, sc, n, h, hs => by
    obtain ⟨h1, h2, h3, h4, h5, m, rfl, h6⟩ := h
    have hn := name_len h1
    have e1 := (end_small hs h3).1
    have e2 := (end_small hs h4).1
    have ih := things_size body _ _ h6 (scOk_snoc hs h1)
    have j := joinL_len (tl "; ") (thingsL body)
    have c0 : (tl "; ").length = 2 := by decide +kernel
    have c1 : (tl "for ").length = 4 := by decide +kernel
    have c2 : (tl " from ").length = 6 := by decide +kernel
    have c3 : (tl " to ").length = 4 := by decide +kernel
    have c4 : (tl " (").length = 2 := by decide +kernel
    have c5 : (tl ")").length = 1 := by decide +kernel
    have l := len_tl x
    rw [c0] at j
    show (tl "for " ++ tl x ++ tl " from " ++ endL a ++ tl " to " ++ endL b ++ tl " (" ++ TL.joinL (tl "; ") (thingsL body) ++ tl ")").length + 2 ≤ 80 * (1 + cntB body)
    simp only [List.length_append]
    omega
  | .test a b x y, sc, n, h, hs => by
    obtain ⟨h3, h4, h5, m, rfl, h6, h7⟩ := h
    have e1 := (end_small hs h3).1
    have e2 := (end_small hs h4).1
    have ih := things_size x _ _ h6 hs
    have j := joinL_len (tl "; ") (thingsL x)
    have ih2 := things_size y _ _ h7 hs
    have j2 := joinL_len (tl "; ") (thingsL y)
    have c0 : (tl "; ").length = 2 := by decide +kernel
    have c1 : (tl "if ").length = 3 := by decide +kernel
    have c2 : (tl " <= ").length = 4 := by decide +kernel
    have c4 : (tl " (").length = 2 := by decide +kernel
    have c5 : (tl ")").length = 1 := by decide +kernel
    have c6 : (tl " else (").length = 7 := by decide +kernel
    rw [c0] at j j2
    cases y with
    | nil =>
      show (tl "if " ++ endL a ++ tl " <= " ++ endL b ++ tl " (" ++ TL.joinL (tl "; ") (thingsL x) ++ tl ")" ++ []).length + 2 ≤ 80 * (1 + cntB x + 0)
      simp only [List.length_append, List.length_nil]
      omega
    | cons t r =>
      show (tl "if " ++ endL a ++ tl " <= " ++ endL b ++ tl " (" ++ TL.joinL (tl "; ") (thingsL x) ++ tl ")" ++ (tl " else (" ++ TL.joinL (tl "; ") (thingsL (t :: r)) ++ tl ")")).length + 2 ≤ 80 * (1 + cntB x + cntB (t :: r))
      simp only [List.length_append]
      omega
  | .twice b, sc, n, h, hs => by
    obtain ⟨h5, m, rfl, h6⟩ := h
    have ih := things_size b _ _ h6 hs
    have j := joinL_len (tl "; ") (thingsL b)
    have c0 : (tl "; ").length = 2 := by decide +kernel
    have c1 : (tl "double (").length = 8 := by decide +kernel
    have c5 : (tl ")").length = 1 := by decide +kernel
    rw [c0] at j
    show (tl "double (" ++ TL.joinL (tl "; ") (thingsL b) ++ tl ")").length + 2 ≤ 80 * (1 + cntB b)
    simp only [List.length_append]
    omega
  | .call x e, sc, n, h, hs => by
    have e1 := (end_small hs h.2.2).1
    have hn := name_len h.1
    have c1 : (tl "call ").length = 5 := by decide +kernel
    have c2 : (tl " with ").length = 6 := by decide +kernel
    have l := len_tl x
    show (tl "call " ++ tl x ++ tl " with " ++ endL e).length + 2 ≤ 80 * 1
    simp only [List.length_append]
    omega
  | .again k w, sc, n, h, hs => by
    obtain ⟨_, h1, h2, h3⟩ := h
    have e := (num_small (i := k) (by omega) (by omega)).1
    have c1 : (tl "again ").length = 6 := by decide +kernel
    have c2 : (tl " on ").length = 4 := by decide +kernel
    have c3 : (tl w).length ≤ 6 := by
      rcases h3 with rfl | rfl | rfl
      · decide +kernel
      · decide +kernel
      · decide +kernel
    show (tl "again " ++ numL k ++ tl " on " ++ tl w).length + 2 ≤ 80 * 1
    simp only [List.length_append]
    omega
theorem things_size {C : Str → Prop} {A : Prop} : ∀ (ts : List Thing) (sc : List Str) (n : Nat), TsOk C A sc n ts → ScOk sc → ((thingsL ts).map (fun l => l.length + 2)).sum ≤ 80 * cntB ts
  | [], _, _, _, _ => Nat.le_refl _
  | t :: r, sc, n, h, hs => by
    have h1 := thing_size t sc n h.1 hs
    have h2 := things_size r sc n h.2 hs
    show ((thingL t).length + 2) + ((thingsL r).map (fun l => l.length + 2)).sum ≤ 80 * (cntT t + cntB r)
    omega
end
theorem plan_size {C : Str → Prop} {A : Prop} {ts : List Thing} {sc : List Str} {n : Nat} (h : TsOk C A sc n ts) (hs : ScOk sc) : (planL ts).length ≤ 80 * cntB ts := by
  have j := joinL_len (tl "; ") (thingsL ts)
  have c0 : (tl "; ").length = 2 := by decide +kernel
  rw [c0] at j
  exact Nat.le_trans j (things_size ts sc n h hs)
theorem cnt_pos : ∀ t : Thing, 1 ≤ cntT t
  | .step _ => Nat.le_refl _
  | .loop _ _ _ b => Nat.le_add_right _ _
  | .test _ _ x y => by show 1 ≤ 1 + cntB x + cntB y; omega
  | .twice b => Nat.le_add_right _ _
  | .call _ _ => Nat.le_refl _
  | .again _ _ => Nat.le_refl _
theorem cnt_len : ∀ ts : List Thing, ts.length ≤ cntB ts
  | [] => Nat.le_refl _
  | t :: r => by
    have h1 := cnt_pos t
    have h2 := cnt_len r
    show r.length + 1 ≤ cntT t + cntB r
    omega
theorem cnt_mem {t : Thing} : ∀ {ts : List Thing}, t ∈ ts → cntT t ≤ cntB ts
  | [], h => by cases h
  | u :: r, h => by
    show cntT t ≤ cntT u + cntB r
    rcases List.mem_cons.mp h with rfl | h
    · omega
    · have := cnt_mem h
      omega
/-! ### a comprehension over a tuple, its element a call that leaves all as it was -/
theorem lc_tup_map {K : PySem.W.Frag} {a : Addr} {xs : List V} {g : TG} {te : TE} {vs : List Nat} {σ : L2.St} {H1 : Hp} {D : Addr} {Qd : Hp → Prop} (ys : List V) (i0 : Nat) (hg : g = gName i0) (hw : ∀ v, wipe ((wipe σ vs).set i0 v) vs = wipe σ vs)
    (hlen : ys.length = xs.length) (hz : xs.length < 100000) (hS : H1 a = some (.tup xs)) (hD : H1 D = none)
    (he : ∀ (i : Nat) (x y : V) (H2 : Hp) (Q : VK), xs[i]? = some x → ys[i]? = some y → Same H1 H2 → (∀ H3, Same H2 H3 → Q y H3) → te ((wipe σ vs).set i0 (some x)) H2 Q)
    (hd : ∀ H', Same H1 H' → H' D = some (.lst ys) → Qd H') :
    ∃ W : Nat → Nat → Hp → Prop, (∃ m, W 0 m (upd H1 D (.lst []))) ∧ ∀ i m H, W i m H →
      ((Itt K a).stop i H ∧ Qd H) ∨ ((Itt K a).go i H ∧ ∃ Nx : Hp → Prop, (∀ H', Nx H' → ∃ m', m' < m ∧ W (i + 1) m' H') ∧ ∀ x H', (Itt K a).yld i H x H' → g x (wipe σ vs) H' fun σ2 H2 => wipe σ2 vs = wipe σ vs ∧ tYes σ2 H2 fun b H3 =>
        if b = true then te σ2 H3 fun y H4 => ∃ acc, H4 D = some (.lst acc) ∧ acc.length < sizeLine ∧ Nx (upd H4 D (.lst (acc ++ [y]))) else Nx H3) := by
  subst hg
  refine lc_tup (xs := xs) (fun i H' => Same H1 H' ∧ H' D = some (.lst (ys.take i))) ⟨same_new hD, upd_same⟩ (fun i H' hi hP => SqT.of (hP.1 _ _ hS)) (fun i x H' hx hP => ?_) (fun H' hP => ?_)
  · obtain ⟨sm, hl⟩ := hP
    have hi : i < ys.length := by
      rw [hlen]
      obtain ⟨h, _⟩ := List.getElem?_eq_some_iff.mp hx
      exact h
    refine ⟨hw _, yes_go ?_⟩
    refine he i x ys[i] H' _ hx (List.getElem?_eq_getElem hi) sm fun H3 s3 => ?_
    refine ⟨ys.take i, s3 _ _ hl, ?_, Same.upd_new (sm.trans s3) hD, ?_⟩
    · rw [List.length_take]
      exact szl (by omega)
    · rw [upd_same, List.take_add_one, List.getElem?_eq_getElem hi]
      rfl
  · obtain ⟨sm, hl⟩ := hP
    rw [← hlen, List.take_length] at hl
    exact hd H' sm hl
/-! ### what the writers promise -/
def spEndText : Sp := fun vs H Q _ => ∃ (v : V) (e : Str × Int), vs = [v] ∧ Rp H v (encE e) ∧ e.1.length ≤ 100 ∧ -99 ≤ e.2 ∧ e.2 ≤ 99 ∧ ∀ H', Same H H' → Q (.str (S (endL e))) H'
def spThingText (n : Nat) : Sp := fun vs H Q _ => ∃ (v : V) (t : Thing) (C : Str → Prop) (A : Prop) (sc : List Str), vs = [v] ∧ Rp H v (enc t) ∧ TOk C A sc n t ∧ ScOk sc ∧ cntT t ≤ 1000 ∧ ∀ H', Same H H' → Q (.str (S (thingL t))) H'
def spPlanText (n : Nat) : Sp := fun vs H Q _ => ∃ (v : V) (ts : List Thing) (C : Str → Prop) (A : Prop) (sc : List Str), vs = [v] ∧ Rp H v (.tup (encs ts)) ∧ TsOk C A sc n ts ∧ ScOk sc ∧ cntB ts ≤ 1000 ∧ ∀ H', Same H H' → Q (.str (S (planL ts))) H'
/-- the same for the things of one kind -/
def spOne (kind : Thing → Prop) (n : Nat) : Sp := fun vs H Q _ => ∃ (v : V) (t : Thing) (C : Str → Prop) (A : Prop) (sc : List Str), vs = [v] ∧ kind t ∧ Rp H v (enc t) ∧ TOk C A sc n t ∧ ScOk sc ∧ cntT t ≤ 1000 ∧ ∀ H', Same H H' → Q (.str (S (thingL t))) H'
theorem endL_len {e : Str × Int} (h : e.1.length ≤ 100) (h1 : -99 ≤ e.2) (h2 : e.2 ≤ 99) : (endL e).length ≤ 110 := by
  have n1 := (num_small h1 h2).1
  have n2 := (num_small (i := -e.2) (by omega) (by omega)).1
  have l1 := len_tl e.1
  have p1 : (tl " + ").length = 3 := by decide +kernel
  have p2 : (tl " - ").length = 3 := by decide +kernel
  unfold endL
  split
  · omega
  · split
    · omega
    · split
      · rw [List.length_append, List.length_append]
        omega
      · rw [List.length_append, List.length_append]
        omega
/-! ### how a heap goes on: what M tells may be written, tuples stay -/
structure Go (M : Addr → Prop) (H H' : Hp) : Prop where
  sx : Sx M H H'
  im : Imm H H'
theorem Go.refl (M : Addr → Prop) (H : Hp) : Go M H H := ⟨Sx.refl M H, Imm.refl H⟩
theorem Go.trans {M : Addr → Prop} {H H1 H2 : Hp} (a : Go M H H1) (b : Go M H1 H2) : Go M H H2 := ⟨a.sx.trans b.sx, a.im.trans b.im⟩
theorem Go.same {M : Addr → Prop} {H H' : Hp} (a : Same H H') : Go M H H' := ⟨Sx.of_same a, Imm.same a⟩
theorem Go.new {M : Addr → Prop} {H H' : Hp} {p : Addr} {o : HO} (a : Go M H H') (h : H' p = none) : Go M H (upd H' p o) := a.trans (Go.same (same_new h))
theorem Go.mono {M N : Addr → Prop} {H H' : Hp} (a : Go M H H') (h : ∀ b, M b → N b) : Go N H H' := ⟨a.sx.mono h, a.im⟩
theorem Go.but {M : Addr → Prop} {H H' : Hp} {d L : Addr} (h : Dr H d L) (a : But d H H') (m : M d) : Go M H H' := ⟨Sx.of_but a m, h.imm a⟩
theorem Go.set {M : Addr → Prop} {H H' : Hp} {p : Addr} {o : HO} {l : List V} (a : Go M H H') (m : M p) (h : H' p = some (.lst l)) : Go M H (upd H' p o) :=
  ⟨a.sx.upd_in m, a.im.trans ((Imm.refl H').upd fun xs e => by rw [h] at e; cases e)⟩
theorem Go.own {M : Addr → Prop} {H H' : Hp} {p : Addr} {o : HO} (a : Go M H H') (h : H p = none) : Go M H (upd H' p o) :=
  ⟨a.sx.upd_new h, a.im.upd fun xs e => by rw [h] at e; cases e⟩
theorem Go.at {M : Addr → Prop} {H H' : Hp} {p : Addr} {o : HO} (a : Go M H H') (h : H p = some o) (n : ¬ M p) : H' p = some o := a.sx p o n h
/-- what is not tracked behind was not tracked ahead, where M's own are tracked behind -/
theorem Go.free {M : Addr → Prop} {H H' : Hp} {p : Addr} (a : Go M H H') (h : H' p = none) (n : ¬ M p) : H p = none := by
  cases q : H p with
  | none => rfl
  | some o =>
    rw [a.sx p o n q] at h
    cases h
theorem mem_ints2 {v : V} {a b : Int} (h : v ∈ [V.int a, .int b]) : ∃ m, v = .int m ∧ (m = a ∨ m = b) := by
  rcases List.mem_cons.mp h with rfl | h
  · exact ⟨a, rfl, .inl rfl⟩
  rcases List.mem_cons.mp h with rfl | h
  · exact ⟨b, rfl, .inr rfl⟩
  · cases h
theorem mem_ints3 {v : V} {a b c : Int} (h : v ∈ [V.int a, .int b, .int c]) : ∃ m, v = .int m ∧ (m = a ∨ m = b ∨ m = c) := by
  rcases List.mem_cons.mp h with rfl | h
  · exact ⟨a, rfl, .inl rfl⟩
  obtain ⟨m, e, q⟩ := mem_ints2 h
  exact ⟨m, e, .inr q⟩
theorem mem_ints {v : V} {ns : List Int} (h : v ∈ ns.map V.int) : ∃ m, v = .int m ∧ m ∈ ns := by
  obtain ⟨m, hm, e⟩ := List.mem_map.mp h
  exact ⟨m, e.symm, hm⟩
theorem mem_strs {v : V} {ns : List Str} (h : v ∈ ns.map V.str) : ∃ m, v = .str m ∧ m ∈ ns := by
  obtain ⟨m, hm, e⟩ := List.mem_map.mp h
  exact ⟨m, e.symm, hm⟩
/-! ### what the drawing promises -/
/-- the kit: room, the names that may be called (none), figures, wide -/
def Kt (H : Hp) (k kd : Addr) (r : Int) (fig wide : Bool) : Prop := H k = some (.lst [.int r, .ref kd, .bl fig, .bl wide]) ∧ H kd = some (.dK [])
def M2 (d k : Addr) : Addr → Prop := fun b => b = d ∨ b = k
/-- _law_some_end(draw, scope, wide) -/
def spSomeEnd : Sp := fun vs H Q _ => ∃ (d L sc : Addr) (ns : List Str) (wide : Bool), vs = [.ref d, .ref sc, .bl wide] ∧ Dr H d L ∧ H sc = some (.lst (ns.map V.str)) ∧ sc ≠ d ∧ ns ≠ [] ∧ ns.length < 100 ∧
  ∀ (v : V) (e : Str × Int) (H' : Hp), Rp H' v (encE e) → EndOk ns e → Dr H' d L → Go (· = d) H H' → Q v H'
/-- _law_fresh(draw, taken) -/
def spFresh : Sp := fun vs H Q _ => ∃ (d L sc : Addr) (ns : List Str), vs = [.ref d, .ref sc] ∧ Dr H d L ∧ H sc = some (.lst (ns.map V.str)) ∧ sc ≠ d ∧ ns.length < 26 ∧
  ∀ (x : Str) (H' : Hp), nameB x = true → x ∉ ns → Dr H' d L → Go (· = d) H H' → Q (.str x) H'
/-- no name may be called -/
abbrev C0 : Str → Prop := fun _ => False
/-- _law_leaf(draw, kit, scope, deep) -/
def spLeaf : Sp := fun vs H Q _ => ∃ (d L k kd sc : Addr) (dp r : Int) (fig wide : Bool), vs = [.ref d, .ref k, .ref sc, .int dp] ∧ Dr H d L ∧ Kt H k kd r fig wide ∧ k ≠ d ∧
  ∀ (v : V) (t : Thing) (H' : Hp), Rp H' v (enc t) → (∀ ns n, TOk C0 False ns n t) → cntT t = 1 → Dr H' d L → Go (· = d) H H' → Q v H'
/-- what a drawing of things is handed -/
def spDraw (post : Nat → List Str → V → Hp → Nat → Prop) (n : Nat) : Sp := fun vs H Q _ => ∃ (d L k kd sc : Addr) (r : Nat) (fig wide : Bool) (ns : List Str), vs = [.ref d, .ref k, .ref sc, .int (4 - n)] ∧ Dr H d L ∧ Kt H k kd r fig wide ∧ k ≠ d ∧ k ≠ L ∧ 1 ≤ r ∧ r ≤ 100 ∧
  H sc = some (.lst (ns.map V.str)) ∧ sc ≠ d ∧ sc ≠ k ∧ ScOk ns ∧ ns ≠ [] ∧ ns.length + n ≤ 20 ∧
  ∀ (v : V) (c r' : Nat) (H' : Hp), post n ns v H' c → c + r' = r → Dr H' d L → Kt H' k kd r' fig wide → Go (M2 d k) H H' → Q v H'
def spDrawThing : Nat → Sp := spDraw fun n ns v H' c => ∃ t, Rp H' v (enc t) ∧ TOk C0 False ns n t ∧ cntT t = c
def spDrawBody : Nat → Sp := spDraw fun n ns v H' c => ∃ ts, ts ≠ [] ∧ Rp H' v (.tup (encs ts)) ∧ TsOk C0 False ns n ts ∧ cntB ts = c
/-- _law_drawn(draw, room, figures, wide) -/
def spDrawn : Sp := fun vs H Q _ => ∃ (d L : Addr) (r : Nat) (fig wide : Bool), vs = [.ref d, .int r, .bl fig, .bl wide] ∧ Dr H d L ∧ 1 ≤ r ∧ r ≤ 100 ∧
  ∀ (v : V) (ts : List Thing) (H' : Hp), ts ≠ [] → Rp H' v (.tup (encs ts)) → TsOk C0 False ["n"] 4 ts → cntB ts ≤ r → Dr H' d L → Go (· = d) H H' → Q v H'
/-- of fewer than 26 names one of the doubled letters is none -/
theorem nodup_sub : ∀ {xs ys : List Str}, xs.Nodup → (∀ x ∈ xs, x ∈ ys) → xs.length ≤ ys.length
  | [], _, _, _ => Nat.zero_le _
  | x :: r, ys, h, s => by
    obtain ⟨h1, h2⟩ := List.nodup_cons.mp h
    have hx := s x List.mem_cons_self
    have ih := nodup_sub (xs := r) (ys := ys.erase x) h2 (fun y hy => by
      have hne : y ≠ x := fun e => h1 (e ▸ hy)
      exact (List.mem_erase_of_ne hne).mpr (s y (List.mem_cons_of_mem _ hy)))
    rw [List.length_erase_of_mem hx] at ih
    have : 0 < ys.length := List.length_pos_of_mem hx
    rw [List.length_cons]
    omega
def spare : List Str := abc.map fun c => S [c, c]
theorem spare_nodup : spare.Nodup := by decide +kernel
theorem spare_free {ns : List Str} (h : ns.length < 26) : ∃ x ∈ spare, x ∉ ns := by
  by_cases c : ∃ x ∈ spare, x ∉ ns
  · exact c
  · have : spare.length ≤ ns.length := nodup_sub spare_nodup (fun x hx => by
      by_cases hn : x ∈ ns
      · exact hn
      · exact absurd ⟨x, hx, hn⟩ c)
    have e : spare.length = 26 := by decide +kernel
    omega
theorem spare_name {x : Str} (h : x ∈ spare) : nameB x = true := by
  obtain ⟨c, hc, rfl⟩ := List.mem_map.mp h
  exact name_two c hc
end OG

set_option Elab.async false
set_option linter.all false
set_option maxRecDepth 100000
set_option maxHeartbeats 4000000
namespace OG
open PySem PySem.Spec PyProof.Rows L2
/-! ### two values that stand for one datum -/
def Eq2 (H : Hp) : Nat → V → V → Prop
  | 0, v, w => v = w ∧ flatV v = true
  | n + 1, v, w => (v = w ∧ flatV v = true) ∨
    (∃ (a b : Addr) (vs ws : List V), v = .ref a ∧ w = .ref b ∧ ((H a = some (.tup vs) ∧ H b = some (.tup ws)) ∨ (H a = some (.lst vs) ∧ H b = some (.lst ws))) ∧ vs.length = ws.length ∧ vs.length < 100000 ∧
      ∀ (i : Nat) x y, vs[i]? = some x → ws[i]? = some y → Eq2 H n x y)
theorem Eq2.same {H H' : Hp} (s : Same H H') : ∀ {n : Nat} {v w : V}, Eq2 H n v w → Eq2 H' n v w
  | 0, _, _, h => h
  | n + 1, v, w, h => by
    rcases h with h | ⟨a, b, vs, ws, e1, e2, h, hl, hz, q⟩
    · exact .inl h
    · refine .inr ⟨a, b, vs, ws, e1, e2, ?_, hl, hz, fun i x y hx hy => Eq2.same s (q i x y hx hy)⟩
      rcases h with ⟨h1, h2⟩ | ⟨h1, h2⟩
      · exact .inl ⟨s _ _ h1, s _ _ h2⟩
      · exact .inr ⟨s _ _ h1, s _ _ h2⟩
theorem Eq2.flat {H : Hp} {v : V} (h : flatV v = true) : ∀ n, Eq2 H n v v
  | 0 => ⟨rfl, h⟩
  | n + 1 => .inl ⟨rfl, h⟩
mutual
/-- how deep tuples stand in one another -/
def depD : D → Nat
  | .tup xs => 1 + depL xs
  | _ => 0
def depL : List D → Nat
  | [] => 0
  | x :: xs => max (depD x) (depL xs)
end
mutual
/-- no tuple is too long -/
def fitD : D → Prop
  | .tup xs => xs.length < 100000 ∧ fitL xs
  | _ => True
def fitL : List D → Prop
  | [] => True
  | x :: xs => fitD x ∧ fitL xs
end
theorem fit_get : ∀ {xs : List D} {i : Nat} {x : D}, fitL xs → xs[i]? = some x → fitD x
  | [], _, _, _, h => by simp at h
  | y :: ys, 0, x, f, h => by
    have : y = x := Option.some.inj h
    exact this ▸ f.1
  | y :: ys, i + 1, x, f, h => fit_get (xs := ys) (i := i) f.2 h
theorem dep_get : ∀ {xs : List D} {i : Nat} {x : D}, xs[i]? = some x → depD x ≤ depL xs
  | [], _, _, h => by simp at h
  | y :: ys, 0, x, h => by
    have : y = x := Option.some.inj h
    rw [← this]
    exact Nat.le_max_left _ _
  | y :: ys, i + 1, x, h => Nat.le_trans (dep_get (xs := ys) (i := i) h) (Nat.le_max_right _ _)
theorem eq2_of {H : Hp} : ∀ (n : Nat) (x : D) (v w : V), Rp H v x → Rp H w x → depD x ≤ n → fitD x → Eq2 H n v w
  | n, .non, _, _, h, k, _, _ => by rw [show _ = V.non from h, show _ = V.non from k]; exact Eq2.flat rfl n
  | n, .bl b, _, _, h, k, _, _ => by rw [show _ = V.bl b from h, show _ = V.bl b from k]; exact Eq2.flat rfl n
  | n, .int i, _, _, h, k, _, _ => by rw [show _ = V.int i from h, show _ = V.int i from k]; exact Eq2.flat rfl n
  | n, .str z, _, _, h, k, _, _ => by rw [show _ = V.str z from h, show _ = V.str z from k]; exact Eq2.flat rfl n
  | 0, .tup xs, _, _, _, _, hd, _ => by
    have : 1 + depL xs ≤ 0 := hd
    omega
  | n + 1, .tup xs, v, w, h, k, hd, hf => by
    obtain ⟨a, vs, e1, h1, r1⟩ := h
    obtain ⟨b, ws, e2, h2, r2⟩ := k
    have l1 := r1.length
    have l2 := r2.length
    have hd2 : depL xs ≤ n := by
      have : 1 + depL xs ≤ n + 1 := hd
      omega
    refine .inr ⟨a, b, vs, ws, e1, e2, .inl ⟨h1, h2⟩, l1.trans l2.symm, by rw [l1]; exact hf.1, fun i x y hx hy => ?_⟩
    obtain ⟨d1, g1, p1⟩ := r1.get hx
    obtain ⟨d2, g2, p2⟩ := r2.get hy
    have e : d1 = d2 := Option.some.inj (g1.symm.trans g2)
    subst e
    exact eq2_of n d1 x y p1 p2 (Nat.le_trans (dep_get g1) hd2) (fit_get hf.2 g1)
def spSame (n : Nat) : Sp := fun vs H Q _ => ∃ v w : V, vs = [v, w] ∧ Eq2 H n v w ∧ ∀ H', Same H H' → Q (.bl true) H'
def prevS : Nat → Sp
  | 0 => fun _ _ _ _ => False
  | n + 1 => spSame n
/-- zip of two tuples -/
theorem walk_zipT {K : PySem.W.Frag} {a b : Addr} {xs ys : List V} {n : Nat} (hn : n = min xs.length ys.length) : Walk (RZ.ItzT K a b) n (fun H => SqT K H a xs ∧ SqT K H b ys) (YPair (fun i => xs[i]?) (fun i => ys[i]?)) := by
  subst hn
  refine ⟨fun i _ hi q => ?_, fun _ q => ⟨xs, ys, q.1, q.2, by omega⟩, fun i H v H' _ q y => ?_⟩
  · have h1 : i < xs.length := by omega
    have h2 : i < ys.length := by omega
    exact ⟨xs, ys, xs[i], ys[i], q.1, q.2, by simp [h1], by simp [h2]⟩
  · obtain ⟨T, x, z, h1, h2, h3, h4, h5⟩ := y
    exact ⟨T, x, z, h1, h2, h3, h4 xs q.1, h5 ys q.2⟩
theorem fn_none {P : Program} {w : World} {K : PySem.W.Frag} {mg : Str → Option Value} {base : Heap} {f : Addr} {fd : FuncData} {k : Nat} {ps : List Str} : FnOk P w K mg base CX0 k f fd ps (fun _ _ _ _ => False) :=
  ⟨fun _ _ _ _ h => h.elim, fun _ _ _ _ _ _ _ _ _ _ _ _ _ h => h.elim⟩
theorem all_trues : ∀ n : Nat, (List.replicate n true).all id = true
  | 0 => rfl
  | n + 1 => by rw [List.replicate_succ, List.all_cons, all_trues n]; rfl
theorem pg_tupK {X : Cx} {K : PySem.W.Frag} {es : List Expr} {k : Nat} {t : TGs} {n : Nat} {pos : Pos} (hK : X.K = K) (hc : X.calm = true) (h : PGs X es t) (hn : (assignEach es X.env).length = n := by rfl) (hst : (assignEach es X.env).findIdx? (·.1) = none := by rfl) : PG X (.Tuple es k pos) (gTup K n t) := by
  subst hK
  exact pg_tup hc h hn hst
end OG

set_option Elab.async false
set_option linter.all false
set_option maxRecDepth 100000
set_option maxHeartbeats 4000000
namespace OG
open PySem PySem.Spec PyProof.Rows L2
theorem str_to {Q : VK} {a b : Str} {H : Hp} (h : Q (.str b) H) (e : tl a = tl b) : Q (.str a) H := by rw [str_ext e]; exact h
theorem szs {a b : Str} (h : a.length + b.length ≤ 100000) : (a ++ b).length ≤ sizeLine := by rw [len_app]; exact sz h
theorem szc {a b : Str} (h : a.length + b.length ≤ 100000) : a.length + b.length ≤ sizeLine := sz h
theorem l_emp : Str.empty.length = 0 := rfl
theorem l_0 : ("" : Str).length = 0 := by decide +kernel
theorem l_plus : (" + " : Str).length = 3 := by decide +kernel
theorem l_minus : (" - " : Str).length = 3 := by decide +kernel
theorem l_step : ("step " : Str).length = 5 := by decide +kernel
theorem l_for : ("for " : Str).length = 4 := by decide +kernel
theorem l_from : (" from " : Str).length = 6 := by decide +kernel
theorem l_to : (" to " : Str).length = 4 := by decide +kernel
theorem l_open : (" (" : Str).length = 2 := by decide +kernel
theorem l_shut : (")" : Str).length = 1 := by decide +kernel
theorem l_if : ("if " : Str).length = 3 := by decide +kernel
theorem l_le : (" <= " : Str).length = 4 := by decide +kernel
theorem l_else : (" else (" : Str).length = 7 := by decide +kernel
theorem l_double : ("double (" : Str).length = 8 := by decide +kernel
theorem l_call : ("call " : Str).length = 5 := by decide +kernel
theorem l_with : (" with " : Str).length = 6 := by decide +kernel
theorem l_again : ("again " : Str).length = 6 := by decide +kernel
theorem l_on : (" on " : Str).length = 4 := by decide +kernel
theorem numL_len {i : Int} (h0 : -99 ≤ i) (h1 : i ≤ 99) : ((toString i : Str)).length ≤ 3 := by
  have := (num_small h0 h1).1
  unfold numL at this
  rw [← len_tl] at this
  exact this
theorem int_log {i : Int} (h0 : -99 ≤ i) (h1 : i ≤ 99) : i.natAbs.log2 < 1920 := (num_small h0 h1).2
theorem strs_len (ls : List (List Nat)) : ((ls.map S).map (·.length)).sum = (ls.map (·.length)).sum := by
  rw [List.map_map]
  congr 1
theorem sum_le_two : ∀ ls : List (List Nat), (ls.map (·.length)).sum + ls.length * 2 = (ls.map (fun l => l.length + 2)).sum
  | [] => rfl
  | l :: r => by
    have ih := sum_le_two r
    rw [List.map_cons, List.map_cons, List.sum_cons, List.sum_cons, List.length_cons]
    omega
/-- '; '.join of the things' texts -/
theorem join_things (ts : List Thing) : Txt.join "; " (ts.map fun t => S (thingL t)) = S (planL ts) := by
  have e := SX.join_S (tl "; ") (thingsL ts)
  have e1 : SX.S (tl "; ") = ("; " : Str) := S_tl _
  rw [e1] at e
  have e2 : (thingsL ts).map SX.S = ts.map fun t => S (thingL t) := by
    rw [thingsL_map, List.map_map]
    rfl
  rw [e2] at e
  exact e
theorem things_sum {C : Str → Prop} {A : Prop} {ts : List Thing} {sc : List Str} {n : Nat} (h : TsOk C A sc n ts) (hs : ScOk sc) (hc : cntB ts ≤ 1000) :
    (((ts.map fun t => S (thingL t))).map (·.length)).sum + (ts.map fun t => S (thingL t)).length * ("; " : Str).length ≤ 16777216 := by
  have c0 : ("; " : Str).length = 2 := by decide +kernel
  have e : (ts.map fun t => S (thingL t)) = (thingsL ts).map S := by
    rw [thingsL_map, List.map_map]
    rfl
  rw [e, strs_len, c0, List.length_map, sum_le_two]
  have := things_size ts sc n h hs
  omega
theorem body_len {C : Str → Prop} {A : Prop} {ts : List Thing} {sc : List Str} {n : Nat} (h : TsOk C A sc n ts) (hs : ScOk sc) (hc : cntB ts ≤ 1000) : (planL ts).length ≤ 80000 := by
  have := plan_size h hs
  omega
theorem rpl_things {H : Hp} {vs : List V} {ts : List Thing} (h : RpL H vs (encs ts)) {i : Nat} {x : V} (hx : vs[i]? = some x) : ∃ t, ts[i]? = some t ∧ Rp H x (enc t) := by
  obtain ⟨d, hd, hr⟩ := h.get hx
  rw [encs_map, List.getElem?_map] at hd
  cases ht : ts[i]? with
  | none => rw [ht] at hd; cases hd
  | some t =>
    rw [ht] at hd
    have : enc t = d := Option.some.inj hd
    exact ⟨t, rfl, this ▸ hr⟩
end OG

set_option Elab.async false
set_option linter.all false
set_option maxRecDepth 100000
set_option maxHeartbeats 4000000
namespace OG
open PySem PySem.Spec PyProof.Rows L2
mutual
def toPy : D → PyData
  | .non => .none
  | .bl b => .bool b
  | .int n => .int n
  | .str z => .str z
  | .tup xs => .tuple (toPys xs)
def toPys : List D → List PyData
  | [] => []
  | x :: xs => toPy x :: toPys xs
end
mutual
theorem rp_dp {K : PySem.W.Frag} {H : Hp} : ∀ (x : D) (v : V), Rp H v x → Dp K H v (toPy x)
  | .non, _, h => by rw [show _ = V.non from h]; exact .non
  | .bl b, _, h => by rw [show _ = V.bl b from h]; exact .bl b
  | .int n, _, h => by rw [show _ = V.int n from h]; exact .int n
  | .str z, _, h => by rw [show _ = V.str z from h]; exact .str z
  | .tup xs, _, h => by
    obtain ⟨a, vs, e, q, r⟩ := h
    rw [e]
    exact .tup (SqT.of q) (rp_dps xs vs r)
theorem rp_dps {K : PySem.W.Frag} {H : Hp} : ∀ (xs : List D) (vs : List V), RpL H vs xs → DpAll K H vs (toPys xs)
  | [], _, h => by rw [show _ = [] from h]; exact .nil
  | x :: xs, _, h => by
    obtain ⟨v, r, e, q, t⟩ := h
    rw [e]
    exact .cons (rp_dp x v q) (rp_dps xs r t)
end
theorem abc_range : ∀ c ∈ abc, 97 ≤ c ∧ c ≤ 122 := by
  have h : abc.all (fun c => decide (97 ≤ c) && decide (c ≤ 122)) = true := by decide +kernel
  intro c hc
  have := List.all_eq_true.mp h c hc
  simpa only [Bool.and_eq_true, decide_eq_true_eq] using this
theorem name_strOk {z : Str} (h : nameB z = true) : PyData.strOk z = true := by
  have ha := name_abc h
  unfold PyData.strOk
  rw [Array.all_eq_true']
  intro c hc
  have := abc_range c (ha c (by simpa [tl] using hc))
  simp
  omega
theorem end_py {sc : List Str} {e : Str × Int} (hs : ScOk sc) (h : EndOk sc e) : (toPy (encE e)).canLay0 = true ∧ (toPy (encE e)).depth = 1 := by
  have h1 : PyData.strOk e.1 = true := by
    rcases h with ⟨h1, _⟩ | ⟨h1, _⟩
    · rw [h1]
      decide +kernel
    · rcases hs _ h1 with h2 | h2
      · rw [h2]
        decide +kernel
      · exact name_strOk h2
  refine ⟨?_, rfl⟩
  show (PyData.strOk e.1 && (true && true)) = true
  rw [h1]
  rfl
mutual
theorem thing_py {C : Str → Prop} {A : Prop} : ∀ (t : Thing) (sc : List Str) (n : Nat), TOk C A sc n t → ScOk sc → (toPy (enc t)).canLay0 = true ∧ (toPy (enc t)).depth ≤ 2 * n + 2
  | .step k, sc, n, h, hs => ⟨by show (PyData.strOk "step" && (true && true)) = true; decide +kernel, by show 1 ≤ 2 * n + 2; omega⟩
  | .loop x a b body, sc, n, h, hs => by
    obtain ⟨h1, h2, h3, h4, h5, m, rfl, h6⟩ := h
    obtain ⟨a1, a2⟩ := end_py hs h3
    obtain ⟨b1, b2⟩ := end_py hs h4
    obtain ⟨c1, c2⟩ := things_py body _ _ h6 (scOk_snoc hs h1)
    have f1 : PyData.strOk "for" = true := by decide +kernel
    constructor
    · show (PyData.strOk "for" && (PyData.strOk x && ((toPy (encE a)).canLay0 && ((toPy (encE b)).canLay0 && (PyData.canLayAll0 (toPys (encs body)) && true))))) = true
      rw [f1, name_strOk h1, a1, b1, c1]
      rfl
    · show max 0 (max 0 (max (toPy (encE a)).depth (max (toPy (encE b)).depth (max (PyData.depthAll (toPys (encs body)) + 1) 0)))) + 1 ≤ 2 * (m + 1) + 2
      rw [a2, b2]
      omega
  | .test a b x y, sc, n, h, hs => by
    obtain ⟨h3, h4, h5, m, rfl, h6, h7⟩ := h
    obtain ⟨a1, a2⟩ := end_py hs h3
    obtain ⟨b1, b2⟩ := end_py hs h4
    obtain ⟨c1, c2⟩ := things_py x _ _ h6 hs
    obtain ⟨d1, d2⟩ := things_py y _ _ h7 hs
    have f1 : PyData.strOk "if" = true := by decide +kernel
    constructor
    · show (PyData.strOk "if" && ((toPy (encE a)).canLay0 && ((toPy (encE b)).canLay0 && (PyData.canLayAll0 (toPys (encs x)) && (PyData.canLayAll0 (toPys (encs y)) && true))))) = true
      rw [f1, a1, b1, c1, d1]
      rfl
    · show max 0 (max (toPy (encE a)).depth (max (toPy (encE b)).depth (max (PyData.depthAll (toPys (encs x)) + 1) (max (PyData.depthAll (toPys (encs y)) + 1) 0)))) + 1 ≤ 2 * (m + 1) + 2
      rw [a2, b2]
      omega
  | .twice b, sc, n, h, hs => by
    obtain ⟨h5, m, rfl, h6⟩ := h
    obtain ⟨c1, c2⟩ := things_py b _ _ h6 hs
    have f1 : PyData.strOk "double" = true := by decide +kernel
    constructor
    · show (PyData.strOk "double" && (PyData.canLayAll0 (toPys (encs b)) && true)) = true
      rw [f1, c1]
      rfl
    · show max 0 (max (PyData.depthAll (toPys (encs b)) + 1) 0) + 1 ≤ 2 * (m + 1) + 2
      omega
  | .call x e, sc, n, h, hs => by
    obtain ⟨a1, a2⟩ := end_py hs h.2.2
    have f1 : PyData.strOk "call" = true := by decide +kernel
    constructor
    · show (PyData.strOk "call" && (PyData.strOk x && ((toPy (encE e)).canLay0 && true))) = true
      rw [f1, name_strOk h.1, a1]
      rfl
    · show max 0 (max 0 (max (toPy (encE e)).depth 0)) + 1 ≤ 2 * n + 2
      rw [a2]
      omega
  | .again k w, sc, n, h, hs => by
    obtain ⟨_, _, _, h3⟩ := h
    have f1 : PyData.strOk "again" = true := by decide +kernel
    have f2 : PyData.strOk w = true := by
      rcases h3 with rfl | rfl | rfl
      · decide +kernel
      · decide +kernel
      · decide +kernel
    constructor
    · show (PyData.strOk "again" && (true && (PyData.strOk w && true))) = true
      rw [f1, f2]
      rfl
    · show 1 ≤ 2 * n + 2
      omega
theorem things_py {C : Str → Prop} {A : Prop} : ∀ (ts : List Thing) (sc : List Str) (n : Nat), TsOk C A sc n ts → ScOk sc → PyData.canLayAll0 (toPys (encs ts)) = true ∧ PyData.depthAll (toPys (encs ts)) ≤ 2 * n + 2
  | [], _, _, _, _ => ⟨rfl, Nat.zero_le _⟩
  | t :: r, sc, n, h, hs => by
    obtain ⟨a1, a2⟩ := thing_py t sc n h.1 hs
    obtain ⟨b1, b2⟩ := things_py r sc n h.2 hs
    constructor
    · show ((toPy (enc t)).canLay0 && PyData.canLayAll0 (toPys (encs r))) = true
      rw [a1, b1]
      rfl
    · show max (toPy (enc t)).depth (PyData.depthAll (toPys (encs r))) ≤ 2 * n + 2
      omega
end
/-- a body against the empty tuple -/
theorem body_eqv {C : Str → Prop} {A : Prop} {ts : List Thing} {sc : List Str} {n : Nat} (h : TsOk C A sc n ts) (hs : ScOk sc) (hn : n ≤ 20) :
    SeqAt.shaped (toPy (.tup (encs ts))) = true ∧ PyData.eqv (toPy (.tup (encs ts))) (.tuple []) = ts.isEmpty := by
  obtain ⟨a1, a2⟩ := things_py ts sc n h hs
  constructor
  · unfold SeqAt.shaped
    rw [show (toPy (.tup (encs ts))).canLay0 = true from a1]
    have : (toPy (.tup (encs ts))).depth ≤ 64 := by
      show PyData.depthAll (toPys (encs ts)) + 1 ≤ 64
      omega
    rw [decide_eq_true this]
    rfl
  · cases ts with
    | nil => rfl
    | cons t r => rfl
end OG

set_option Elab.async false
set_option linter.all false
set_option maxRecDepth 100000
set_option maxHeartbeats 4000000
namespace OG
open PySem PySem.Spec PyProof.Rows L2
def cutD (xs : List D) (lo hi : Option Int) : List D := (xs.drop (HT.sIx xs.length 0 lo)).take (HT.sIx xs.length xs.length hi - HT.sIx xs.length 0 lo)
theorem sl_rp {K : PySem.W.Frag} {H : Hp} {v : V} {xs : List D} {lo hi : Option Int} {Q : VK} (h : Rp H v (.tup xs)) (q : ∀ v' H', Same H H' → Rp H' v' (.tup (cutD xs lo hi)) → Q v' H') : rSlA K v lo hi H Q := by
  obtain ⟨a, vs, rfl, ha, r⟩ := id h
  have l := r.length
  refine ⟨a, vs, rfl, SqT.of ha, fun hw => ?_, fun hw p np => ?_⟩
  · have e : cutD xs lo hi = xs := by
      unfold cutD
      rw [← l, hw.1, hw.2, List.drop_zero, Nat.sub_zero, l, List.take_length]
    have := q (.ref a) H (Same.refl H)
    rw [e] at this
    exact this h
  · have s : Same H (upd H p (.tup (cutV vs lo hi))) := same_new np
    refine q (.ref p) _ s (rp_tup upd_same ?_)
    unfold cutV cutD
    rw [← l]
    exact ((r.drop _).take _).to (Imm.same s)
theorem cat_rp {K : PySem.W.Frag} {H : Hp} {x y : V} {xs ys : List D} {Q : VK} (hx : Rp H x (.tup xs)) (hy : Rp H y (.tup ys)) (hz : xs.length + ys.length ≤ 100000) (q : ∀ v' H', Same H H' → Rp H' v' (.tup (xs ++ ys)) → Q v' H') : rCatA K x y H Q := by
  obtain ⟨a, vs, rfl, ha, r⟩ := id hx
  obtain ⟨b, ws, rfl, hb, t⟩ := id hy
  have l := r.length
  have m := t.length
  refine ⟨a, b, vs, ws, rfl, rfl, SqT.of ha, SqT.of hb, sz (by omega), fun e => ?_, fun _ e => ?_, fun _ _ p np => ?_⟩
  · have : xs = [] := List.eq_nil_of_length_eq_zero (by rw [← l, e]; rfl)
    subst this
    exact q (.ref b) H (Same.refl H) hy
  · have : ys = [] := List.eq_nil_of_length_eq_zero (by rw [← m, e]; rfl)
    subst this
    have := q (.ref a) H (Same.refl H)
    rw [List.append_nil] at this
    exact this hx
  · have s : Same H (upd H p (.tup (vs ++ ws))) := same_new np
    exact q (.ref p) _ s (rp_tup upd_same ((r.append t).to (Imm.same s)))
theorem cutD_to (xs : List D) (k : Nat) : cutD xs none (some (k : Int)) = xs.take k := by
  unfold cutD
  rw [HT.sIx_none, HT.sIx_nat, List.drop_zero, Nat.sub_zero]
  by_cases h : k ≤ xs.length
  · rw [Nat.min_eq_left h]
  · rw [Nat.min_eq_right (by omega), List.take_length, List.take_of_length_le (by omega)]
theorem cutD_from (xs : List D) (k : Nat) : cutD xs (some (k : Int)) none = xs.drop k := by
  unfold cutD
  rw [HT.sIx_none, HT.sIx_nat]
  by_cases h : k ≤ xs.length
  · rw [Nat.min_eq_left h, List.take_of_length_le (by rw [List.length_drop]; omega)]
  · rw [Nat.min_eq_right (by omega), List.drop_length, Nat.sub_self, List.drop_eq_nil_of_le (by omega)]
    rfl
theorem encs_take (ts : List Thing) (k : Nat) : (encs ts).take k = encs (ts.take k) := by rw [encs_map, encs_map, List.map_take]
theorem encs_drop (ts : List Thing) (k : Nat) : (encs ts).drop k = encs (ts.drop k) := by rw [encs_map, encs_map, List.map_drop]
theorem cnt_take : ∀ (ts : List Thing) (k : Nat), cntB (ts.take k) ≤ cntB ts
  | _, 0 => Nat.zero_le _
  | [], k + 1 => Nat.le_refl _
  | t :: r, k + 1 => by
    have := cnt_take r k
    show cntT t + cntB (r.take k) ≤ cntT t + cntB r
    omega
theorem cnt_drop : ∀ (ts : List Thing) (k : Nat), cntB (ts.drop k) ≤ cntB ts
  | _, 0 => Nat.le_refl _
  | [], k + 1 => Nat.le_refl _
  | t :: r, k + 1 => by
    have := cnt_drop r k
    show cntB (r.drop k) ≤ cntT t + cntB r
    omega
mutual
theorem tok_mono {C C' : Str → Prop} {A A' : Prop} (hC : ∀ x, C x → C' x) (hA : A → A') : ∀ (t : Thing) (sc : List Str) (n : Nat), TOk C A sc n t → TOk C' A' sc n t
  | .step _, _, _, h => h
  | .loop x a b body, sc, n, h => by
    obtain ⟨h1, h2, h3, h4, h5, m, e, h6⟩ := h
    exact ⟨h1, h2, h3, h4, h5, m, e, tsok_mono hC hA body _ _ h6⟩
  | .test a b x y, sc, n, h => by
    obtain ⟨h3, h4, h5, m, e, h6, h7⟩ := h
    exact ⟨h3, h4, h5, m, e, tsok_mono hC hA x _ _ h6, tsok_mono hC hA y _ _ h7⟩
  | .twice b, sc, n, h => by
    obtain ⟨h5, m, e, h6⟩ := h
    exact ⟨h5, m, e, tsok_mono hC hA b _ _ h6⟩
  | .call x e, sc, n, h => ⟨h.1, hC _ h.2.1, h.2.2⟩
  | .again k w, sc, n, h => ⟨hA h.1, h.2⟩
theorem tsok_mono {C C' : Str → Prop} {A A' : Prop} (hC : ∀ x, C x → C' x) (hA : A → A') : ∀ (ts : List Thing) (sc : List Str) (n : Nat), TsOk C A sc n ts → TsOk C' A' sc n ts
  | [], _, _, _ => trivial
  | t :: r, sc, n, h => ⟨tok_mono hC hA t sc n h.1, tsok_mono hC hA r sc n h.2⟩
end
theorem tsok_append {C : Str → Prop} {A : Prop} {sc : List Str} {n : Nat} {a b : List Thing} (h : TsOk C A sc n a) (k : TsOk C A sc n b) : TsOk C A sc n (a ++ b) := by
  rw [tsok_iff] at h k ⊢
  intro t ht
  rcases List.mem_append.mp ht with h1 | h1
  · exact h t h1
  · exact k t h1
theorem tsok_take {C : Str → Prop} {A : Prop} {sc : List Str} {n : Nat} {a : List Thing} (h : TsOk C A sc n a) (k : Nat) : TsOk C A sc n (a.take k) := by
  rw [tsok_iff] at h ⊢
  exact fun t ht => h t (List.mem_of_mem_take ht)
theorem tsok_drop {C : Str → Prop} {A : Prop} {sc : List Str} {n : Nat} {a : List Thing} (h : TsOk C A sc n a) (k : Nat) : TsOk C A sc n (a.drop k) := by
  rw [tsok_iff] at h ⊢
  exact fun t ht => h t (List.mem_of_mem_drop ht)
theorem scOk_n : ScOk ["n"] := fun x hx => .inl (List.mem_singleton.mp hx)
abbrev CT : Str → Prop := fun _ => True
def spLaw (K : PySem.W.Frag) : Sp := fun vs H Q _ => ∃ (a : Addr) (ns : List Int), vs = [.ref a] ∧ SqL K H a (ns.map V.int) ∧ ns.length ≤ 63 ∧ ∀ H', Q (.bl true) H'
/-! depth and fit of a plan's datum -/
theorem depD_end (e : Str × Int) : depD (encE e) = 1 := rfl
mutual
theorem thing_dep {C : Str → Prop} {A : Prop} : ∀ (t : Thing) (sc : List Str) (n : Nat), TOk C A sc n t → depD (enc t) ≤ 2 * n + 2
  | .step k, _, n, _ => by show 1 ≤ 2 * n + 2; omega
  | .loop x a b body, sc, n, h => by
    obtain ⟨_, _, _, _, _, m, rfl, h6⟩ := h
    have := things_dep body _ _ h6
    show 1 + max 0 (max 0 (max 1 (max 1 (max (1 + depL (encs body)) 0)))) ≤ 2 * (m + 1) + 2
    omega
  | .test a b x y, sc, n, h => by
    obtain ⟨_, _, _, m, rfl, h6, h7⟩ := h
    have h8 := things_dep x _ _ h6
    have h9 := things_dep y _ _ h7
    show 1 + max 0 (max 1 (max 1 (max (1 + depL (encs x)) (max (1 + depL (encs y)) 0)))) ≤ 2 * (m + 1) + 2
    omega
  | .twice b, sc, n, h => by
    obtain ⟨_, m, rfl, h6⟩ := h
    have := things_dep b _ _ h6
    show 1 + max 0 (max (1 + depL (encs b)) 0) ≤ 2 * (m + 1) + 2
    omega
  | .call x e, _, n, _ => by show 1 + max 0 (max 0 (max 1 0)) ≤ 2 * n + 2; omega
  | .again k w, _, n, _ => by show 1 ≤ 2 * n + 2; omega
theorem things_dep {C : Str → Prop} {A : Prop} : ∀ (ts : List Thing) (sc : List Str) (n : Nat), TsOk C A sc n ts → depL (encs ts) ≤ 2 * n + 2
  | [], _, _, _ => Nat.zero_le _
  | t :: r, sc, n, h => by
    have h1 := thing_dep t sc n h.1
    have h2 := things_dep r sc n h.2
    show max (depD (enc t)) (depL (encs r)) ≤ 2 * n + 2
    omega
end
theorem plan_dep {C : Str → Prop} {A : Prop} {ts : List Thing} {sc : List Str} {n k : Nat} (h : TsOk C A sc n ts) (hk : 2 * n + 3 ≤ k) : depD (.tup (encs ts)) ≤ k := by
  have := things_dep ts sc n h
  show 1 + depL (encs ts) ≤ k
  omega
mutual
theorem thing_fit : ∀ (t : Thing), cntT t ≤ 1000 → fitD (enc t)
  | .step k, _ => ⟨by show 2 < 100000; decide, trivial, trivial, trivial⟩
  | .loop x a b body, h => by
    have h2 : 1 + cntB body ≤ 1000 := h
    have hl := cnt_len body
    exact ⟨by show 5 < 100000; decide, trivial, trivial, ⟨by show 2 < 100000; decide, trivial, trivial, trivial⟩, ⟨by show 2 < 100000; decide, trivial, trivial, trivial⟩, ⟨by rw [encs_length]; omega, things_fit body (by omega)⟩, trivial⟩
  | .test a b x y, h => by
    have h2 : 1 + cntB x + cntB y ≤ 1000 := h
    have hx := cnt_len x
    have hy := cnt_len y
    exact ⟨by show 5 < 100000; decide, trivial, ⟨by show 2 < 100000; decide, trivial, trivial, trivial⟩, ⟨by show 2 < 100000; decide, trivial, trivial, trivial⟩, ⟨by rw [encs_length]; omega, things_fit x (by omega)⟩, ⟨by rw [encs_length]; omega, things_fit y (by omega)⟩, trivial⟩
  | .twice b, h => by
    have h2 : 1 + cntB b ≤ 1000 := h
    have hl := cnt_len b
    exact ⟨by show 2 < 100000; decide, trivial, ⟨by rw [encs_length]; omega, things_fit b (by omega)⟩, trivial⟩
  | .call x e, _ => ⟨by show 3 < 100000; decide, trivial, trivial, ⟨by show 2 < 100000; decide, trivial, trivial, trivial⟩, trivial⟩
  | .again k w, _ => ⟨by show 3 < 100000; decide, trivial, trivial, trivial, trivial⟩
theorem things_fit : ∀ (ts : List Thing), cntB ts ≤ 1000 → fitL (encs ts)
  | [], _ => trivial
  | t :: r, h => by
    have h2 : cntT t + cntB r ≤ 1000 := h
    exact ⟨thing_fit t (by omega), things_fit r (by omega)⟩
end
theorem plan_fit {C : Str → Prop} {A : Prop} {ts : List Thing} {sc : List Str} {n : Nat} (_ : TsOk C A sc n ts) (h : cntB ts ≤ 1000) : fitD (.tup (encs ts)) := by
  have hl := cnt_len ts
  exact ⟨by rw [encs_length]; omega, things_fit ts h⟩
end OG

set_option Elab.async false
set_option linter.all false
set_option maxRecDepth 100000
set_option maxHeartbeats 4000000
namespace OG
open PySem PySem.Spec PyProof.Rows L2
/-! ### all things of a plan, and whom it calls -/
def bodiesT : Thing → List (List Thing)
  | .step _ => []
  | .loop _ _ _ b => [b]
  | .test _ _ x y => [x, y]
  | .twice b => [b]
  | .call _ _ => []
  | .again _ _ => []
mutual
def everyT : Thing → List Thing
  | .step k => [.step k]
  | .loop x a b body => .loop x a b body :: everyB body
  | .test a b x y => .test a b x y :: (everyB x ++ everyB y)
  | .twice b => .twice b :: everyB b
  | .call x e => [.call x e]
  | .again k w => [.again k w]
def everyB : List Thing → List Thing
  | [] => []
  | t :: r => everyT t ++ everyB r
end
theorem everyB_append : ∀ a b : List Thing, everyB (a ++ b) = everyB a ++ everyB b
  | [], b => rfl
  | t :: r, b => by
    show everyT t ++ everyB (r ++ b) = everyT t ++ everyB r ++ everyB b
    rw [everyB_append r b, List.append_assoc]
theorem everyT_eq (t : Thing) : everyT t = t :: (bodiesT t).flatMap everyB := by
  cases t <;> simp [everyT, bodiesT]
theorem everyB_take {ts : List Thing} {i : Nat} {t : Thing} (h : ts[i]? = some t) : everyB (ts.take (i + 1)) = everyB (ts.take i) ++ t :: (bodiesT t).flatMap everyB := by
  rw [List.take_add_one, h, everyB_append]
  show everyB (ts.take i) ++ (everyT t ++ everyB []) = _
  rw [everyT_eq]
  show _ ++ (_ ++ []) = _
  rw [List.append_nil]
mutual
theorem everyT_len : ∀ t : Thing, (everyT t).length = cntT t
  | .step _ => rfl
  | .loop x a b body => by
    show (everyB body).length + 1 = 1 + cntB body
    rw [everyB_len body]; omega
  | .test a b x y => by
    show (everyB x ++ everyB y).length + 1 = 1 + cntB x + cntB y
    rw [List.length_append, everyB_len x, everyB_len y]; omega
  | .twice b => by
    show (everyB b).length + 1 = 1 + cntB b
    rw [everyB_len b]; omega
  | .call _ _ => rfl
  | .again _ _ => rfl
theorem everyB_len : ∀ ts : List Thing, (everyB ts).length = cntB ts
  | [] => rfl
  | t :: r => by
    show (everyT t ++ everyB r).length = cntT t + cntB r
    rw [List.length_append, everyT_len t, everyB_len r]
end
theorem cnt_take_le (ts : List Thing) (i : Nat) : cntB (ts.take i) ≤ cntB ts := cnt_take ts i
/-- a thing's bodies have one bracket less -/
theorem bodies_ok {C : Str → Prop} {A : Prop} {sc : List Str} {n : Nat} {t : Thing} (h : TOk C A sc n t) : ∀ b ∈ bodiesT t, ∃ sc' m, n = m + 1 ∧ TsOk C A sc' m b := by
  cases t with
  | step k => intro b hb; cases hb
  | loop x e1 e2 body =>
    obtain ⟨_, _, _, _, _, m, e, h6⟩ := h
    intro b hb
    rw [List.mem_singleton.mp hb]
    exact ⟨_, m, e, h6⟩
  | test e1 e2 x y =>
    obtain ⟨_, _, _, m, e, h6, h7⟩ := h
    intro b hb
    rcases List.mem_cons.mp hb with rfl | hb
    · exact ⟨_, m, e, h6⟩
    · rw [List.mem_singleton.mp hb]
      exact ⟨_, m, e, h7⟩
  | twice b0 =>
    obtain ⟨_, m, e, h6⟩ := h
    intro b hb
    rw [List.mem_singleton.mp hb]
    exact ⟨_, m, e, h6⟩
  | call x e => intro b hb; cases hb
  | again k w => intro b hb; cases hb
theorem bodies_cnt {t : Thing} : ∀ b ∈ bodiesT t, cntB b ≤ cntT t := by
  cases t with
  | step k => intro b hb; cases hb
  | loop x e1 e2 body =>
    intro b hb
    rw [List.mem_singleton.mp hb]
    show cntB body ≤ 1 + cntB body
    omega
  | test e1 e2 x y =>
    intro b hb
    show cntB b ≤ 1 + cntB x + cntB y
    rcases List.mem_cons.mp hb with rfl | hb
    · omega
    · rw [List.mem_singleton.mp hb]
      omega
  | twice b0 =>
    intro b hb
    rw [List.mem_singleton.mp hb]
    show cntB b0 ≤ 1 + cntB b0
    omega
  | call x e => intro b hb; cases hb
  | again k w => intro b hb; cases hb
def encBs (bs : List (List Thing)) : List D := bs.map fun b => .tup (encs b)
theorem rpl_bodies {H : Hp} {vs : List V} {bs : List (List Thing)} (h : RpL H vs (encBs bs)) {i : Nat} {x : V} (hx : vs[i]? = some x) : ∃ b, bs[i]? = some b ∧ Rp H x (.tup (encs b)) := by
  obtain ⟨d, hd, hr⟩ := h.get hx
  unfold encBs at hd
  rw [List.getElem?_map] at hd
  cases ht : bs[i]? with
  | none => rw [ht] at hd; cases hd
  | some t =>
    rw [ht] at hd
    have : D.tup (encs t) = d := Option.some.inj hd
    exact ⟨t, rfl, this ▸ hr⟩
theorem flat_take_len {α β : Type} (f : α → List β) (l : List α) (k : Nat) : ((l.take k).flatMap f).length ≤ (l.flatMap f).length := by
  have e : l.flatMap f = (l.take k).flatMap f ++ (l.drop k).flatMap f := by rw [← List.flatMap_append, List.take_append_drop]
  rw [e, List.length_append]
  omega
theorem part_len {ts : List Thing} {i : Nat} {t : Thing} (h : ts[i]? = some t) (k : Nat) : (everyB (ts.take i) ++ t :: ((bodiesT t).take k).flatMap everyB).length ≤ cntB ts := by
  have e := congrArg List.length (everyB_take h)
  have h1 := cnt_take ts (i + 1)
  rw [everyB_len, List.length_append, List.length_cons] at e
  have h2 := flat_take_len everyB (bodiesT t) k
  rw [List.length_append, List.length_cons]
  omega
theorem flat_step {bs : List (List Thing)} {j : Nat} {b : List Thing} (h : bs[j]? = some b) : (bs.take (j + 1)).flatMap everyB = (bs.take j).flatMap everyB ++ everyB b := by
  rw [List.take_add_one, h, List.flatMap_append]
  show _ ++ (everyB b ++ []) = _
  rw [List.append_nil]
theorem encs_cons_append (a : List Thing) (t : Thing) (b : List Thing) : encs (a ++ t :: b) = encs a ++ enc t :: encs b := by rw [encs_append]; rfl
theorem flat_strs (zs : List Str) : (zs.map V.str).all flatV = true := by
  rw [List.all_eq_true]
  intro x hx
  obtain ⟨z, _, rfl⟩ := List.mem_map.mp hx
  rfl
def kindT : Thing → Str
  | .step _ => "step"
  | .loop _ _ _ _ => "for"
  | .test _ _ _ _ => "if"
  | .twice _ => "double"
  | .call _ _ => "call"
  | .again _ _ => "again"
theorem rp_kind {H : Hp} {v : V} {t : Thing} (h : Rp H v (enc t)) : ∃ a vs, v = .ref a ∧ H a = some (.tup (.str (kindT t) :: vs)) := by
  cases t with
  | step k =>
    obtain ⟨a, v1, v2, rfl, ha, rfl, _⟩ := rp_t2 h
    exact ⟨a, _, rfl, ha⟩
  | loop x e1 e2 b =>
    obtain ⟨a, v1, v2, v3, v4, v5, rfl, ha, rfl, _⟩ := rp_t5 h
    exact ⟨a, _, rfl, ha⟩
  | test e1 e2 x y =>
    obtain ⟨a, v1, v2, v3, v4, v5, rfl, ha, rfl, _⟩ := rp_t5 h
    exact ⟨a, _, rfl, ha⟩
  | twice b =>
    obtain ⟨a, v1, v2, rfl, ha, rfl, _⟩ := rp_t2 h
    exact ⟨a, _, rfl, ha⟩
  | call x e =>
    obtain ⟨a, v1, v2, v3, rfl, ha, rfl, _⟩ := rp_t3 h
    exact ⟨a, _, rfl, ha⟩
  | again k w =>
    obtain ⟨a, v1, v2, v3, rfl, ha, rfl, _⟩ := rp_t3 h
    exact ⟨a, _, rfl, ha⟩
/-- a comparison of two texts -/
theorem dec_str {x y : Str} (h : ¬ x = y) : decide (V.str x = V.str y) = false := decide_eq_false fun z => h (V.str.inj z)
theorem kind_call {t : Thing} (h : kindT t = "call") : ∃ x e, t = .call x e := by
  cases t with
  | call x e => exact ⟨x, e, rfl⟩
  | step k => exact absurd h (by show ¬ (("step" : Str) = "call"); decide +kernel)
  | loop x a b c => exact absurd h (by show ¬ (("for" : Str) = "call"); decide +kernel)
  | test x a b c => exact absurd h (by show ¬ (("if" : Str) = "call"); decide +kernel)
  | twice b => exact absurd h (by show ¬ (("double" : Str) = "call"); decide +kernel)
  | again k w => exact absurd h (by show ¬ (("again" : Str) = "call"); decide +kernel)
theorem kind_step {t : Thing} (h : kindT t = "step") : ∃ k, t = .step k := by
  cases t with
  | step k => exact ⟨k, rfl⟩
  | loop x a b c => exact absurd h (by show ¬ (("for" : Str) = "step"); decide +kernel)
  | test x a b c => exact absurd h (by show ¬ (("if" : Str) = "step"); decide +kernel)
  | twice b => exact absurd h (by show ¬ (("double" : Str) = "step"); decide +kernel)
  | call x e => exact absurd h (by show ¬ (("call" : Str) = "step"); decide +kernel)
  | again k w => exact absurd h (by show ¬ (("again" : Str) = "step"); decide +kernel)
theorem kind_if {t : Thing} (h : kindT t = "if") : ∃ x a b c, t = .test x a b c := by
  cases t with
  | step k => exact absurd h (by show ¬ (("step" : Str) = "if"); decide +kernel)
  | loop x a b c => exact absurd h (by show ¬ (("for" : Str) = "if"); decide +kernel)
  | test x a b c => exact ⟨x, a, b, c, rfl⟩
  | twice b => exact absurd h (by show ¬ (("double" : Str) = "if"); decide +kernel)
  | call x e => exact absurd h (by show ¬ (("call" : Str) = "if"); decide +kernel)
  | again k w => exact absurd h (by show ¬ (("again" : Str) = "if"); decide +kernel)
theorem kind_for {t : Thing} (h : kindT t = "for") : ∃ x a b c, t = .loop x a b c := by
  cases t with
  | step k => exact absurd h (by show ¬ (("step" : Str) = "for"); decide +kernel)
  | loop x a b c => exact ⟨x, a, b, c, rfl⟩
  | test x a b c => exact absurd h (by show ¬ (("if" : Str) = "for"); decide +kernel)
  | twice b => exact absurd h (by show ¬ (("double" : Str) = "for"); decide +kernel)
  | call x e => exact absurd h (by show ¬ (("call" : Str) = "for"); decide +kernel)
  | again k w => exact absurd h (by show ¬ (("again" : Str) = "for"); decide +kernel)
theorem kind_double {t : Thing} (h : kindT t = "double") : ∃ b, t = .twice b := by
  cases t with
  | step k => exact absurd h (by show ¬ (("step" : Str) = "double"); decide +kernel)
  | loop x a b c => exact absurd h (by show ¬ (("for" : Str) = "double"); decide +kernel)
  | test x a b c => exact absurd h (by show ¬ (("if" : Str) = "double"); decide +kernel)
  | twice b => exact ⟨b, rfl⟩
  | call x e => exact absurd h (by show ¬ (("call" : Str) = "double"); decide +kernel)
  | again k w => exact absurd h (by show ¬ (("again" : Str) = "double"); decide +kernel)
theorem kind_again {t : Thing} (h : kindT t = "again") : ∃ k w, t = .again k w := by
  cases t with
  | step k => exact absurd h (by show ¬ (("step" : Str) = "again"); decide +kernel)
  | loop x a b c => exact absurd h (by show ¬ (("for" : Str) = "again"); decide +kernel)
  | test x a b c => exact absurd h (by show ¬ (("if" : Str) = "again"); decide +kernel)
  | twice b => exact absurd h (by show ¬ (("double" : Str) = "again"); decide +kernel)
  | call x e => exact absurd h (by show ¬ (("call" : Str) = "again"); decide +kernel)
  | again k w => exact ⟨k, w, rfl⟩
def addC (acc : List Str) : Thing → List Str
  | .call x _ => if x ∈ acc then acc else acc ++ [x]
  | _ => acc
theorem addC_len (acc : List Str) (t : Thing) : (addC acc t).length ≤ acc.length + 1 := by
  cases t with
  | call x e =>
    show (if x ∈ acc then acc else acc ++ [x]).length ≤ _
    split
    · omega
    · rw [List.length_append]; exact Nat.le_refl _
  | _ => exact Nat.le_succ _
theorem foldC_len : ∀ (ts : List Thing) (acc : List Str), (ts.foldl addC acc).length ≤ acc.length + ts.length
  | [], _ => Nat.le_refl _
  | t :: r, acc => by
    have h1 := foldC_len r (addC acc t)
    have h2 := addC_len acc t
    rw [List.foldl_cons, List.length_cons]
    omega
theorem addC_no {acc : List Str} {t : Thing} (h : ¬ kindT t = "call") : addC acc t = acc := by
  cases t with
  | call x e => exact absurd rfl h
  | _ => rfl
def callsL (ts : List Thing) : List Str := (everyB ts).foldl addC []
/-- bodies_of(thing), _law_bodies(_law_thing) -/
def spBodies : Sp := fun vs H Q _ => ∃ (v : V) (t : Thing), vs = [v] ∧ Rp H v (enc t) ∧
  ∀ (p : Addr) (us : List V) (H' : Hp), Same H H' → H p = none → H' p = some (.lst us) → RpL H' us (encBs (bodiesT t)) → Q (.ref p) H'
/-- things_of(body), _law_every(_law_plan) -/
def spEvery (n : Nat) : Sp := fun vs H Q _ => ∃ (v : V) (ts : List Thing) (C : Str → Prop) (A : Prop) (sc : List Str), vs = [v] ∧ Rp H v (.tup (encs ts)) ∧ TsOk C A sc n ts ∧ cntB ts ≤ 1000 ∧
  ∀ (p : Addr) (us : List V) (H' : Hp), Same H H' → H p = none → H' p = some (.lst us) → RpL H' us (encs (everyB ts)) → Q (.ref p) H'
def prevE : Nat → Sp
  | 0 => fun _ _ _ _ => False
  | m + 1 => spEvery m
/-- calls_of(plan), _law_calls(_law_plan) -/
def spCalls (n : Nat) : Sp := fun vs H Q _ => ∃ (v : V) (ts : List Thing) (C : Str → Prop) (A : Prop) (sc : List Str), vs = [v] ∧ Rp H v (.tup (encs ts)) ∧ TsOk C A sc n ts ∧ cntB ts ≤ 1000 ∧
  ∀ (p : Addr) (H' : Hp), Same H H' → H p = none → H' p = some (.lst ((callsL ts).map V.str)) → Q (.ref p) H'
/-- _law_with_calls(draw, plan, names) -/
def spWith (n : Nat) : Sp := fun vs H Q _ => ∃ (d L nm : Addr) (v : V) (ts : List Thing) (ns : List Str) (sc : List Str), vs = [.ref d, v, .ref nm] ∧ Dr H d L ∧ Rp H v (.tup (encs ts)) ∧ TsOk CT False sc n ts ∧ ("n" : Str) ∈ sc ∧ cntB ts ≤ 1000 ∧
  H nm = some (.lst (ns.map V.str)) ∧ nm ≠ d ∧ ns ≠ [] ∧ ns.length < 100 ∧ (∀ x ∈ ns, nameB x = true) ∧
  ∀ (v' : V) (ts' : List Thing) (H' : Hp), (ts ≠ [] → ts' ≠ []) → Rp H' v' (.tup (encs ts')) → TsOk CT False sc n ts' → cntB ts' = cntB ts → Dr H' d L → Go (· = d) H H' → Q v' H'
def prevC : Nat → Sp
  | 0 => fun _ _ _ _ => False
  | m + 1 => spWith m
end OG

set_option Elab.async false
set_option linter.all false
set_option maxRecDepth 100000
set_option maxHeartbeats 4000000
namespace K07
open PySem PySem.Spec PyProof.Rows L2 OG
open C8 (pss_cut pe_gc)
def topS (i : Nat) : Stmt := PySem.Challenge.pw_outgrow_k07_names_that_plans_call.main.body.getD i (.Pass ⟨0, 0, 0, 0⟩)
abbrev sbodies_of : Stmt := topS 1
abbrev Nbodies_of : List Str := ["thing"]
theorem scbodies_of : FnScope Nbodies_of ["thing"] (defScope sbodies_of) := ⟨rfl, rfl, rfl, by decide +kernel, rfl, by decide +kernel, by decide +kernel⟩

abbrev sthings_of : Stmt := topS 2
abbrev Nthings_of : List Str := ["body", "found", "thing", "inner"]
theorem scthings_of : FnScope Nthings_of ["body"] (defScope sthings_of) := ⟨rfl, rfl, rfl, by decide +kernel, rfl, by decide +kernel, by decide +kernel⟩

abbrev scalls_of : Stmt := topS 3
abbrev Ncalls_of : List Str := ["plan", "found", "thing"]
theorem sccalls_of : FnScope Ncalls_of ["plan"] (defScope scalls_of) := ⟨rfl, rfl, rfl, by decide +kernel, rfl, by decide +kernel, by decide +kernel⟩

abbrev sl_begin : Stmt := topS 5
abbrev Nl_begin : List Str := ["_law_script"]
theorem scl_begin : FnScope Nl_begin ["_law_script"] (defScope sl_begin) := ⟨rfl, rfl, rfl, by decide +kernel, rfl, by decide +kernel, by decide +kernel⟩

abbrev sl_take : Stmt := topS 6
abbrev Nl_take : List Str := ["_law_draw", "_law_sides", "_law_cell", "_law_got"]
theorem scl_take : FnScope Nl_take ["_law_draw", "_law_sides"] (defScope sl_take) := ⟨rfl, rfl, rfl, by decide +kernel, rfl, by decide +kernel, by decide +kernel⟩

abbrev sl_pick : Stmt := topS 7
abbrev Nl_pick : List Str := ["_law_draw", "_law_row"]
theorem scl_pick : FnScope Nl_pick ["_law_draw", "_law_row"] (defScope sl_pick) := ⟨rfl, rfl, rfl, by decide +kernel, rfl, by decide +kernel, by decide +kernel⟩

abbrev sl_kept_words : Stmt := topS 8
abbrev Nl_kept_words : List Str := []
theorem scl_kept_words : FnScope Nl_kept_words [] (defScope sl_kept_words) := ⟨rfl, rfl, rfl, by decide +kernel, rfl, by decide +kernel, by decide +kernel⟩

abbrev sl_fresh : Stmt := topS 9
abbrev Nl_fresh : List Str := ["_law_draw", "_law_taken", "_law_size", "_law_name", "_law_spare", "_law_sign", "_law_k", "_law_one"]
theorem scl_fresh : FnScope Nl_fresh ["_law_draw", "_law_taken"] (defScope sl_fresh) := ⟨rfl, rfl, rfl, by decide +kernel, rfl, by decide +kernel, by decide +kernel⟩

abbrev sl_with_calls : Stmt := topS 10
abbrev Nl_with_calls : List Str := ["_law_draw", "_law_plan", "_law_names", "_law_found", "_law_thing"]
theorem scl_with_calls : FnScope Nl_with_calls ["_law_draw", "_law_plan", "_law_names"] (defScope sl_with_calls) := ⟨rfl, rfl, rfl, by decide +kernel, rfl, by decide +kernel, by decide +kernel⟩

abbrev sl_some_end : Stmt := topS 11
abbrev Nl_some_end : List Str := ["_law_draw", "_law_scope", "_law_wide", "_law_more"]
theorem scl_some_end : FnScope Nl_some_end ["_law_draw", "_law_scope", "_law_wide"] (defScope sl_some_end) := ⟨rfl, rfl, rfl, by decide +kernel, rfl, by decide +kernel, by decide +kernel⟩

abbrev sl_leaf : Stmt := topS 12
abbrev Nl_leaf : List Str := ["_law_draw", "_law_kit", "_law_scope", "_law_deep", "_law_fit", "_law_name", "_law_end"]
theorem scl_leaf : FnScope Nl_leaf ["_law_draw", "_law_kit", "_law_scope", "_law_deep"] (defScope sl_leaf) := ⟨rfl, rfl, rfl, by decide +kernel, rfl, by decide +kernel, by decide +kernel⟩

abbrev sl_drawn_thing : Stmt := topS 13
abbrev Nl_drawn_thing : List Str := ["_law_draw", "_law_kit", "_law_scope", "_law_deep", "_law_fork", "_law_body", "_law_rest", "_law_one", "_law_other", "_law_name"]
theorem scl_drawn_thing : FnScope Nl_drawn_thing ["_law_draw", "_law_kit", "_law_scope", "_law_deep"] (defScope sl_drawn_thing) := ⟨rfl, rfl, rfl, by decide +kernel, rfl, by decide +kernel, by decide +kernel⟩

abbrev sl_drawn_body : Stmt := topS 14
abbrev Nl_drawn_body : List Str := ["_law_draw", "_law_kit", "_law_scope", "_law_deep", "_law_found", "_law_k"]
theorem scl_drawn_body : FnScope Nl_drawn_body ["_law_draw", "_law_kit", "_law_scope", "_law_deep"] (defScope sl_drawn_body) := ⟨rfl, rfl, rfl, by decide +kernel, rfl, by decide +kernel, by decide +kernel⟩

abbrev sl_drawn : Stmt := topS 15
abbrev Nl_drawn : List Str := ["_law_draw", "_law_room", "_law_figures", "_law_wide"]
theorem scl_drawn : FnScope Nl_drawn ["_law_draw", "_law_room", "_law_figures", "_law_wide"] (defScope sl_drawn) := ⟨rfl, rfl, rfl, by decide +kernel, rfl, by decide +kernel, by decide +kernel⟩

abbrev sl_same : Stmt := topS 16
abbrev Nl_same : List Str := ["_law_found", "_law_due", "_law_one", "_law_other"]
theorem scl_same : FnScope Nl_same ["_law_found", "_law_due"] (defScope sl_same) := ⟨rfl, rfl, rfl, by decide +kernel, rfl, by decide +kernel, by decide +kernel⟩

abbrev sl_bodies : Stmt := topS 17
abbrev Nl_bodies : List Str := ["_law_thing"]
theorem scl_bodies : FnScope Nl_bodies ["_law_thing"] (defScope sl_bodies) := ⟨rfl, rfl, rfl, by decide +kernel, rfl, by decide +kernel, by decide +kernel⟩

abbrev sl_every : Stmt := topS 18
abbrev Nl_every : List Str := ["_law_plan", "_law_found", "_law_thing", "_law_body"]
theorem scl_every : FnScope Nl_every ["_law_plan"] (defScope sl_every) := ⟨rfl, rfl, rfl, by decide +kernel, rfl, by decide +kernel, by decide +kernel⟩

abbrev sl_calls : Stmt := topS 19
abbrev Nl_calls : List Str := ["_law_plan", "_law_found", "_law_thing"]
theorem scl_calls : FnScope Nl_calls ["_law_plan"] (defScope sl_calls) := ⟨rfl, rfl, rfl, by decide +kernel, rfl, by decide +kernel, by decide +kernel⟩

abbrev slaw : Stmt := topS 20
abbrev Nlaw : List Str := ["_law_script", "_law_draw", "_law_turn", "_law_names", "_law_plan", "_law_again", "_law_found", "_law_k"]
theorem sclaw : FnScope Nlaw ["_law_script"] (defScope slaw) := ⟨rfl, rfl, rfl, by decide +kernel, rfl, by decide +kernel, by decide +kernel⟩

structure Tops (K : PySem.W.Frag) (mg : Str → Option Value) where
  fbodies_of : Addr
  dbodies_of : FuncData
  Fbodies_of : Fun K "bodies_of" "bodies_of" sbodies_of fbodies_of dbodies_of
  gbodies_of : mg "bodies_of" = some (.ref fbodies_of)
  fthings_of : Addr
  dthings_of : FuncData
  Fthings_of : Fun K "things_of" "things_of" sthings_of fthings_of dthings_of
  gthings_of : mg "things_of" = some (.ref fthings_of)
  fcalls_of : Addr
  dcalls_of : FuncData
  Fcalls_of : Fun K "calls_of" "calls_of" scalls_of fcalls_of dcalls_of
  gcalls_of : mg "calls_of" = some (.ref fcalls_of)
  fl_begin : Addr
  dl_begin : FuncData
  Fl_begin : Fun K "_law_begin" "_law_begin" sl_begin fl_begin dl_begin
  gl_begin : mg "_law_begin" = some (.ref fl_begin)
  fl_take : Addr
  dl_take : FuncData
  Fl_take : Fun K "_law_take" "_law_take" sl_take fl_take dl_take
  gl_take : mg "_law_take" = some (.ref fl_take)
  fl_pick : Addr
  dl_pick : FuncData
  Fl_pick : Fun K "_law_pick" "_law_pick" sl_pick fl_pick dl_pick
  gl_pick : mg "_law_pick" = some (.ref fl_pick)
  fl_kept_words : Addr
  dl_kept_words : FuncData
  Fl_kept_words : Fun K "_law_kept_words" "_law_kept_words" sl_kept_words fl_kept_words dl_kept_words
  gl_kept_words : mg "_law_kept_words" = some (.ref fl_kept_words)
  fl_fresh : Addr
  dl_fresh : FuncData
  Fl_fresh : Fun K "_law_fresh" "_law_fresh" sl_fresh fl_fresh dl_fresh
  gl_fresh : mg "_law_fresh" = some (.ref fl_fresh)
  fl_with_calls : Addr
  dl_with_calls : FuncData
  Fl_with_calls : Fun K "_law_with_calls" "_law_with_calls" sl_with_calls fl_with_calls dl_with_calls
  gl_with_calls : mg "_law_with_calls" = some (.ref fl_with_calls)
  fl_some_end : Addr
  dl_some_end : FuncData
  Fl_some_end : Fun K "_law_some_end" "_law_some_end" sl_some_end fl_some_end dl_some_end
  gl_some_end : mg "_law_some_end" = some (.ref fl_some_end)
  fl_leaf : Addr
  dl_leaf : FuncData
  Fl_leaf : Fun K "_law_leaf" "_law_leaf" sl_leaf fl_leaf dl_leaf
  gl_leaf : mg "_law_leaf" = some (.ref fl_leaf)
  fl_drawn_thing : Addr
  dl_drawn_thing : FuncData
  Fl_drawn_thing : Fun K "_law_drawn_thing" "_law_drawn_thing" sl_drawn_thing fl_drawn_thing dl_drawn_thing
  gl_drawn_thing : mg "_law_drawn_thing" = some (.ref fl_drawn_thing)
  fl_drawn_body : Addr
  dl_drawn_body : FuncData
  Fl_drawn_body : Fun K "_law_drawn_body" "_law_drawn_body" sl_drawn_body fl_drawn_body dl_drawn_body
  gl_drawn_body : mg "_law_drawn_body" = some (.ref fl_drawn_body)
  fl_drawn : Addr
  dl_drawn : FuncData
  Fl_drawn : Fun K "_law_drawn" "_law_drawn" sl_drawn fl_drawn dl_drawn
  gl_drawn : mg "_law_drawn" = some (.ref fl_drawn)
  fl_same : Addr
  dl_same : FuncData
  Fl_same : Fun K "_law_same" "_law_same" sl_same fl_same dl_same
  gl_same : mg "_law_same" = some (.ref fl_same)
  fl_bodies : Addr
  dl_bodies : FuncData
  Fl_bodies : Fun K "_law_bodies" "_law_bodies" sl_bodies fl_bodies dl_bodies
  gl_bodies : mg "_law_bodies" = some (.ref fl_bodies)
  fl_every : Addr
  dl_every : FuncData
  Fl_every : Fun K "_law_every" "_law_every" sl_every fl_every dl_every
  gl_every : mg "_law_every" = some (.ref fl_every)
  fl_calls : Addr
  dl_calls : FuncData
  Fl_calls : Fun K "_law_calls" "_law_calls" sl_calls fl_calls dl_calls
  gl_calls : mg "_law_calls" = some (.ref fl_calls)
  flaw : Addr
  dlaw : FuncData
  Flaw : Fun K "law" "law" slaw flaw dlaw
  glaw : mg "law" = some (.ref flaw)
  mabs : mg "abs" = none
  mall : mg "all" = none
  mbool : mg "bool" = none
  mint : mg "int" = none
  misinstance : mg "isinstance" = none
  mlen : mg "len" = none
  mlist : mg "list" = none
  mrange : mg "range" = none
  msorted : mg "sorted" = none
  mstr : mg "str" = none
  mtuple : mg "tuple" = none
  mzip : mg "zip" = none
theorem Tops.bbodies_of {K : PySem.W.Frag} {mg : Str → Option Value} (T : Tops K mg) : Binds K T.dbodies_of ["thing"] [] := T.Fbodies_of.binds (ps := ["thing"]) fun _ _ _ _ _ _ us hl => match us, hl with | [_], _ => rfl
theorem Tops.bthings_of {K : PySem.W.Frag} {mg : Str → Option Value} (T : Tops K mg) : Binds K T.dthings_of ["body"] [] := T.Fthings_of.binds (ps := ["body"]) fun _ _ _ _ _ _ us hl => match us, hl with | [_], _ => rfl
theorem Tops.bcalls_of {K : PySem.W.Frag} {mg : Str → Option Value} (T : Tops K mg) : Binds K T.dcalls_of ["plan"] [] := T.Fcalls_of.binds (ps := ["plan"]) fun _ _ _ _ _ _ us hl => match us, hl with | [_], _ => rfl
theorem Tops.bl_begin {K : PySem.W.Frag} {mg : Str → Option Value} (T : Tops K mg) : Binds K T.dl_begin ["_law_script"] [] := T.Fl_begin.binds (ps := ["_law_script"]) fun _ _ _ _ _ _ us hl => match us, hl with | [_], _ => rfl
theorem Tops.bl_take {K : PySem.W.Frag} {mg : Str → Option Value} (T : Tops K mg) : Binds K T.dl_take ["_law_draw", "_law_sides"] [] := T.Fl_take.binds (ps := ["_law_draw", "_law_sides"]) fun _ _ _ _ _ _ us hl => match us, hl with | [_, _], _ => rfl
theorem Tops.bl_pick {K : PySem.W.Frag} {mg : Str → Option Value} (T : Tops K mg) : Binds K T.dl_pick ["_law_draw", "_law_row"] [] := T.Fl_pick.binds (ps := ["_law_draw", "_law_row"]) fun _ _ _ _ _ _ us hl => match us, hl with | [_, _], _ => rfl
theorem Tops.bl_kept_words {K : PySem.W.Frag} {mg : Str → Option Value} (T : Tops K mg) : Binds K T.dl_kept_words [] [] := T.Fl_kept_words.binds (ps := []) fun _ _ _ _ _ _ us hl => match us, hl with | [], _ => rfl
theorem Tops.bl_fresh {K : PySem.W.Frag} {mg : Str → Option Value} (T : Tops K mg) : Binds K T.dl_fresh ["_law_draw", "_law_taken"] [] := T.Fl_fresh.binds (ps := ["_law_draw", "_law_taken"]) fun _ _ _ _ _ _ us hl => match us, hl with | [_, _], _ => rfl
theorem Tops.bl_with_calls {K : PySem.W.Frag} {mg : Str → Option Value} (T : Tops K mg) : Binds K T.dl_with_calls ["_law_draw", "_law_plan", "_law_names"] [] := T.Fl_with_calls.binds (ps := ["_law_draw", "_law_plan", "_law_names"]) fun _ _ _ _ _ _ us hl => match us, hl with | [_, _, _], _ => rfl
theorem Tops.bl_some_end {K : PySem.W.Frag} {mg : Str → Option Value} (T : Tops K mg) : Binds K T.dl_some_end ["_law_draw", "_law_scope", "_law_wide"] [] := T.Fl_some_end.binds (ps := ["_law_draw", "_law_scope", "_law_wide"]) fun _ _ _ _ _ _ us hl => match us, hl with | [_, _, _], _ => rfl
theorem Tops.bl_leaf {K : PySem.W.Frag} {mg : Str → Option Value} (T : Tops K mg) : Binds K T.dl_leaf ["_law_draw", "_law_kit", "_law_scope", "_law_deep"] [] := T.Fl_leaf.binds (ps := ["_law_draw", "_law_kit", "_law_scope", "_law_deep"]) fun _ _ _ _ _ _ us hl => match us, hl with | [_, _, _, _], _ => rfl
theorem Tops.bl_drawn_thing {K : PySem.W.Frag} {mg : Str → Option Value} (T : Tops K mg) : Binds K T.dl_drawn_thing ["_law_draw", "_law_kit", "_law_scope", "_law_deep"] [] := T.Fl_drawn_thing.binds (ps := ["_law_draw", "_law_kit", "_law_scope", "_law_deep"]) fun _ _ _ _ _ _ us hl => match us, hl with | [_, _, _, _], _ => rfl
theorem Tops.bl_drawn_body {K : PySem.W.Frag} {mg : Str → Option Value} (T : Tops K mg) : Binds K T.dl_drawn_body ["_law_draw", "_law_kit", "_law_scope", "_law_deep"] [] := T.Fl_drawn_body.binds (ps := ["_law_draw", "_law_kit", "_law_scope", "_law_deep"]) fun _ _ _ _ _ _ us hl => match us, hl with | [_, _, _, _], _ => rfl
theorem Tops.bl_drawn {K : PySem.W.Frag} {mg : Str → Option Value} (T : Tops K mg) : Binds K T.dl_drawn ["_law_draw", "_law_room", "_law_figures", "_law_wide"] [] := T.Fl_drawn.binds (ps := ["_law_draw", "_law_room", "_law_figures", "_law_wide"]) fun _ _ _ _ _ _ us hl => match us, hl with | [_, _, _, _], _ => rfl
theorem Tops.bl_same {K : PySem.W.Frag} {mg : Str → Option Value} (T : Tops K mg) : Binds K T.dl_same ["_law_found", "_law_due"] [] := T.Fl_same.binds (ps := ["_law_found", "_law_due"]) fun _ _ _ _ _ _ us hl => match us, hl with | [_, _], _ => rfl
theorem Tops.bl_bodies {K : PySem.W.Frag} {mg : Str → Option Value} (T : Tops K mg) : Binds K T.dl_bodies ["_law_thing"] [] := T.Fl_bodies.binds (ps := ["_law_thing"]) fun _ _ _ _ _ _ us hl => match us, hl with | [_], _ => rfl
theorem Tops.bl_every {K : PySem.W.Frag} {mg : Str → Option Value} (T : Tops K mg) : Binds K T.dl_every ["_law_plan"] [] := T.Fl_every.binds (ps := ["_law_plan"]) fun _ _ _ _ _ _ us hl => match us, hl with | [_], _ => rfl
theorem Tops.bl_calls {K : PySem.W.Frag} {mg : Str → Option Value} (T : Tops K mg) : Binds K T.dl_calls ["_law_plan"] [] := T.Fl_calls.binds (ps := ["_law_plan"]) fun _ _ _ _ _ _ us hl => match us, hl with | [_], _ => rfl
theorem Tops.blaw {K : PySem.W.Frag} {mg : Str → Option Value} (T : Tops K mg) : ∀ (s : Shared) (v : Value), BindsTo s T.dlaw ⟨[v], []⟩ [("_law_script", v)] := by
  obtain ⟨oc, od, kV, doc, pm, an, cdv, ct, osl, e, lk, hcd⟩ := T.Flaw.ex
  intro s v
  rw [e]
  exact .of_eq rfl
section
variable {P : Program} {w : World} {K : PySem.W.Frag} {mg : Str → Option Value} {base : Heap}
theorem ok_begin (T : Tops K mg) : FnOk P w K mg base CX0 1 T.fl_begin T.dl_begin ["_law_script"] (spBegin K) := by
  refine T.Fl_begin.ok scl_begin (fun vs H Q E h => ?_) (fun cdv A outer s H vs Q E hr h => ?_)
  · obtain ⟨a, ns, rfl, _⟩ := h
    rfl
  obtain ⟨a, ns, rfl, hS, q⟩ := h
  refine ⟨_, (pss_one (ps_ret (pe_lst (pa_cons (pe_callTy call_list_of (by rfl) T.mlist (by decide +kernel) (pa_cons (pe_slice sl_list (pv 0) po_none (po_some pe_int)) pa_nil)) (pa_cons pe_int (pa_cons pe_int (pa_cons pe_int pa_nil))))))), ?_⟩
  refine ⟨_, rfl, 63, rfl, a, _, rfl, hS, fun p np => ?_⟩
  obtain ⟨ms, hms⟩ := cut_map ns none (some 63)
  refine ⟨p, _, rfl, .inl (SqL.of upd_same), fun L nL => ?_⟩
  refine ⟨(by show 4 ≤ sizeLine; decide), fun d nd => ?_⟩
  have nL0 : H L = none := (same_new np).free nL
  have s3 : Same H (upd (upd (upd H p (.lst (cutV (ns.map V.int) none (some 63)))) L (.lst (cutV (ns.map V.int) none (some 63)))) d (.lst [.ref L, .int 0, .int 0, .int 37])) :=
    ((same_new np).trans (same_new nL)).trans (same_new nd)
  have nd0 : H d = none := ((same_new np).trans (same_new nL)).free nd
  refine q d L _ s3 nd0 nL0 ⟨ms, 0, 0, 37, upd_same, ?_, by decide, by decide, by decide, by decide⟩
  rw [upd_ne (ne_of_none (upd_same) nd), upd_same, hms]
theorem ok_take (T : Tops K mg) : FnOk P w K mg base CX0 1 T.fl_take T.dl_take ["_law_draw", "_law_sides"] spTake := by
  refine T.Fl_take.ok scl_take (fun vs H Q E h => ?_) (fun cdv A outer s H vs Q E hr h => ?_)
  · obtain ⟨d, L, k, rfl, _⟩ := h
    rfl
  obtain ⟨d, L, k, rfl, hD, k1, k2, q⟩ := h
  refine ⟨_, (pss_cut (ps_if (PW.pt (pw_and (pt_cmpR op_lt (pe_ix ix_list (pv 0) pe_int (fun _ _ => rfl)) (pv 1) (nomark _)) (pw_and1 (pt_cmpR op_lt (pe_ix ix_list (pv 0) pe_int (fun _ _ => rfl)) (pe_callB call_len_seq (by rfl) T.mlen PySem.boot_len (pa_cons (pe_ix ix_list (pv 0) pe_int (fun _ _ => rfl)) pa_nil)) (nomark _)))))
  (pss_cons (ps_set (i := 2) scl_take.nd rfl (Or.inl rfl) (pe_ix ix_list (pe_ix ix_list (pv 0) pe_int (fun _ _ => rfl)) (pe_ix ix_list (pv 0) pe_int (fun _ _ => rfl)) (fun _ _ => rfl)))
 (pss_cons (ps_asg (pe_op op_add (pe_ix ix_list (pv 0) pe_int (fun _ _ => rfl)) pe_int) (pg_sub (pv 0) pe_int set_list))
 (pss_cons (ps_asg pe_int (pg_sub (pv 0) pe_int set_list))
 (pss_one (ps_if (pt_cmpR op_ge (pe_callB call_abs (by rfl) T.mabs (by decide +kernel) (pa_cons (pv 2) pa_nil)) (pe_op op_pow pe_int pe_int) (nomark _))
  (pss_one (ps_asg (pe_callB call_abs (by rfl) T.mabs (by decide +kernel) (pa_cons (pv 2) pa_nil)) (pg_sub (pv 0) pe_int set_list)))
  (pss_one (ps_asg (pe_op op_mod (pe_op op_add (pe_op op_add (pe_op op_mul (pe_ix ix_list (pv 0) pe_int (fun _ _ => rfl)) pe_int) (pe_op op_mul (pe_op op_mod (pv 2) pe_int) pe_int)) pe_int) pe_int) (pg_sub (pv 0) pe_int set_list))))))))
  pss_nil)
 (pss_cons (ps_if (pt_cmpR op_ge (pe_ix ix_list (pv 0) pe_int (fun _ _ => rfl)) (pv 1) (nomark _))
  (pss_cons (ps_set (i := 3) scl_take.nd rfl (Or.inl rfl) (pe_op op_mod (pe_ix ix_list (pv 0) pe_int (fun _ _ => rfl)) (pv 1)))
 (pss_cons (ps_asg (pe_op op_fdiv (pe_ix ix_list (pv 0) pe_int (fun _ _ => rfl)) (pv 1)) (pg_sub (pv 0) pe_int set_list))
 (pss_one (ps_ret (pv 3)))))
  pss_nil)
 (pss_cons (ps_asg (pe_op op_mod (pe_op op_add (pe_op op_add (pe_op op_mul (pe_op op_mod (pe_op op_mul (pe_ix ix_list (pv 0) pe_int (fun _ _ => rfl)) (pe_ix ix_list (pv 0) pe_int (fun _ _ => rfl))) pe_int) pe_int) (pe_op op_mul (pe_ix ix_list (pv 0) pe_int (fun _ _ => rfl)) pe_int)) pe_int) pe_int) (pg_sub (pv 0) pe_int set_list))
 (pss_one (ps_ret (pe_op op_mod (pe_op op_add (pe_op op_fdiv (pe_ix ix_list (pv 0) pe_int (fun _ _ => rfl)) pe_int) (pe_op op_mul (pe_op op_mod (pe_ix ix_list (pv 0) pe_int (fun _ _ => rfl)) pe_int) pe_int)) (pv 1))))))), ?_⟩
  have hne := hD.ne
  refine ⟨fun σ' H' => (∃ x y, σ' = [some (.ref d), some (.int k), x, y]) ∧ Dr H' d L ∧ But d H H', ?_, ?_⟩
  · obtain ⟨ns, i, r, s, hd, hL, i0, r0, s0, s1⟩ := id hD
    refine ⟨_, rfl, d, _, 2, _, rfl, rfl, SqL.of hd, rfl, _, rfl, r, k, rfl, rfl, _, rfl, ite2 (fun c1 => ?_) (fun c1 => ?_)⟩
    · refine ⟨_, rfl, d, _, 1, _, rfl, rfl, SqL.of hd, rfl, _, rfl, d, _, 0, _, rfl, rfl, SqL.of hd, rfl, L, _, rfl, .inl (SqL.of hL), i, _, rfl, rfl, _, rfl, ite2 (fun c2 => ?_) (fun c2 => ?_)⟩
      · have c3 : i < ((ns.map V.int).length : Int) := of_decide_eq_true c2
        obtain ⟨v, hv, hm⟩ := atI_lt (xs := ns.map V.int) i0 c3
        obtain ⟨n, _, rfl⟩ := List.mem_map.mp hm
        refine ⟨_, rfl, d, _, 0, _, rfl, rfl, SqL.of hd, rfl, _, rfl, d, _, 1, _, rfl, rfl, SqL.of hd, rfl, L, _, i, _, rfl, rfl, SqL.of hL, hv, ?_⟩
        refine ⟨_, rfl, d, _, 1, _, rfl, rfl, SqL.of hd, rfl, i, 1, rfl, rfl, _, rfl, d, _, 1, 1, rfl, rfl, hd, rfl, ?_⟩
        refine ⟨_, rfl, d, _, 2, 2, rfl, rfl, upd_same, rfl, ?_⟩
        rw [upd_upd]
        refine ⟨_, rfl, n, rfl, 10, 18, rfl, rfl, ⟨by decide, by decide, by decide⟩, _, _, rfl, rfl, _, rfl, ite2 (fun c4 => ?_) (fun c4 => ?_)⟩
        · refine ⟨_, rfl, n, rfl, _, rfl, d, _, 2, 2, rfl, rfl, upd_same, rfl, ?_⟩
          rw [upd_upd]
          exact ⟨⟨_, _, rfl⟩, dr_set hL hne (by omega) (by split <;> omega) s0 s1, but_upd⟩
        · refine ⟨_, rfl, d, _, 3, _, rfl, rfl, SqL.of upd_same, rfl, s, 48271, rfl, rfl, .inr ⟨by decide, by decide⟩, _, rfl, n, 2147483629, rfl, rfl, (show (0 : Int) < 2147483629 by decide), _, 69621, rfl, rfl, .inr ⟨by decide, by decide⟩, _, _, rfl, rfl, _, 12345, rfl, rfl, _, 2147483647, rfl, rfl, (show (0 : Int) < 2147483647 by decide), _, rfl, d, _, 3, 3, rfl, rfl, upd_same, rfl, ?_⟩
          rw [upd_upd]
          have z := mod_lt (a := s * 48271 + n % 2147483629 * 69621 + 12345) (k := 2147483647) (by decide)
          exact ⟨⟨_, _, rfl⟩, dr_set hL hne (by omega) (Int.le_refl 0) z.1 z.2, but_upd⟩
      · exact ⟨⟨_, _, rfl⟩, hD, But.refl d H⟩
    · exact ⟨⟨_, _, rfl⟩, hD, But.refl d H⟩
  · rintro σ' H' ⟨⟨x, y, rfl⟩, hD', hB⟩
    obtain ⟨ns, i, r, s, hd, hL, i0, r0, s0, s1⟩ := id hD'
    refine ⟨_, rfl, d, _, 2, _, rfl, rfl, SqL.of hd, rfl, _, rfl, r, k, rfl, rfl, _, rfl, ite2 (fun c1 => ?_) (fun c1 => ?_)⟩
    · refine ⟨_, rfl, d, _, 2, _, rfl, rfl, SqL.of hd, rfl, _, rfl, r, k, rfl, rfl, (show (0 : Int) < k by omega), ?_⟩
      refine ⟨_, rfl, d, _, 2, _, rfl, rfl, SqL.of hd, rfl, _, rfl, r, k, rfl, rfl, ⟨by omega, k2⟩, _, rfl, d, _, 2, 2, rfl, rfl, hd, rfl, ?_⟩
      have z := mod_lt (a := r) k1
      refine ⟨_, rfl, q _ _ z.1 z.2 (dr_set hL hne i0 (Int.ediv_nonneg r0 (by omega)) s0 s1) (hB.trans but_upd)⟩
    · refine ⟨_, rfl, d, _, 3, _, rfl, rfl, SqL.of hd, rfl, _, rfl, d, _, 3, _, rfl, rfl, SqL.of hd, rfl, s, s, rfl, rfl, .inl ⟨by omega, by omega⟩, _, 2147483629, rfl, rfl, (show (0 : Int) < 2147483629 by decide), _, 5, rfl, rfl, .inr ⟨by decide, by decide⟩,
        _, rfl, d, _, 3, _, rfl, rfl, SqL.of hd, rfl, s, 16811, rfl, rfl, .inr ⟨by decide, by decide⟩, _, _, rfl, rfl, _, 2531011, rfl, rfl, _, 2147483647, rfl, rfl, (show (0 : Int) < 2147483647 by decide), _, rfl, d, _, 3, 3, rfl, rfl, hd, rfl, ?_⟩
      have z := mod_lt (a := s * s % 2147483629 * 5 + s * 16811 + 2531011) (k := 2147483647) (by decide)
      refine ⟨_, rfl, d, _, 3, _, rfl, rfl, SqL.of upd_same, rfl, _, 61, rfl, rfl, ⟨by decide, by decide⟩, _, rfl, d, _, 3, _, rfl, rfl, SqL.of upd_same, rfl, _, 8191, rfl, rfl, (show (0 : Int) < 8191 by decide), _, 31, rfl, rfl, .inr ⟨by decide, by decide⟩, _, _, rfl, rfl, _, rfl, _, k, rfl, rfl, (show (0 : Int) < k by omega), ?_⟩
      exact q _ _ (mod_lt k1).1 (mod_lt k1).2 (dr_set hL hne i0 r0 z.1 z.2) (hB.trans but_upd)
theorem ok_pick (T : Tops K mg) : FnOk P w K mg base CX0 2 T.fl_pick T.dl_pick ["_law_draw", "_law_row"] (spPick K) := by
  have Gl_take : FnOk P w K mg base CX0 1 T.fl_take T.dl_take ["_law_draw", "_law_sides"] spTake := ok_take T
  refine T.Fl_pick.ok scl_pick (fun vs H Q E h => ?_) (fun cdv A outer s H vs Q E hr h => ?_)
  · obtain ⟨d, L, x, n, rfl, _⟩ := h
    rfl
  obtain ⟨d, L, x, n, rfl, hD, n0, n1, q⟩ := h
  refine ⟨_, (pss_one (ps_ret (pe_ix ix_seq (pv 1) (pe_call Gl_take (hr.mono (by omega)) (by rfl) T.gl_take T.Fl_take.kp T.bl_take .nil pass0 (pa_cons (pv 0) (pa_cons (pe_callB call_len (by rfl) T.mlen PySem.boot_len (pa_cons (pv 1) pa_nil)) pa_nil))) (fun _ _ => rfl)))), ?_⟩
  rcases q with ⟨z, rfl, rfl, q⟩ | ⟨a, xs, rfl, na, hS, rfl, q⟩
  · refine ⟨_, rfl, _, rfl, _, rfl, .str z, z.length, rfl, ⟨sz (by omega), rfl⟩, d, L, (z.length : Int), rfl, hD, by omega, by omega, fun g H' g0 g1 hD' hB => ?_⟩
    have e := len_tl z
    obtain ⟨c, hc, hm⟩ := atI_lt (xs := tl z) g0 (by omega)
    exact .inr (.inr ⟨z, g, c, rfl, rfl, sz (by omega), hc, q c H' hm hD' hB⟩)
  · refine ⟨_, rfl, _, rfl, _, rfl, .ref a, xs.length, rfl, .inl ⟨xs, hS, rfl⟩, d, L, (xs.length : Int), rfl, hD, by omega, by omega, fun g H' g0 g1 hD' hB => ?_⟩
    obtain ⟨v, hv, hm⟩ := atI_lt (xs := xs) g0 (by omega)
    exact .inl ⟨a, xs, g, v, rfl, rfl, SqL.but hS hB na, hv, q v H' hm hD' hB⟩
theorem ok_kept (T : Tops K mg) : FnOk P w K mg base CX0 1 T.fl_kept_words T.dl_kept_words [] spKept := by
  refine T.Fl_kept_words.ok scl_kept_words (fun vs H Q E h => ?_) (fun cdv A outer s H vs Q E hr h => ?_)
  · obtain ⟨rfl, _⟩ := h
    rfl
  obtain ⟨rfl, q⟩ := h
  refine ⟨_, (pss_one (ps_ret (pe_split pe_str pe_str))), ?_⟩
  refine ⟨⟨_, rfl⟩, _, _, rfl, rfl, by decide +kernel, by decide +kernel, fun p np => ?_⟩
  refine q p _ np ?_
  rw [kept_split]
end
end K07

set_option Elab.async false
set_option linter.all false
set_option maxRecDepth 100000
set_option maxHeartbeats 4000000
namespace K07
open PySem PySem.Spec PyProof.Rows L2 OG
open C8 (pss_cut pe_gc)
section
variable {P : Program} {w : World} {K : PySem.W.Frag} {mg : Str → Option Value} {base : Heap}
theorem ok_some_end (T : Tops K mg) : FnOk P w K mg base CX0 3 T.fl_some_end T.dl_some_end ["_law_draw", "_law_scope", "_law_wide"] spSomeEnd := by
  have Gl_take : FnOk P w K mg base CX0 1 T.fl_take T.dl_take ["_law_draw", "_law_sides"] spTake := ok_take T
  have Gl_pick : FnOk P w K mg base CX0 2 T.fl_pick T.dl_pick ["_law_draw", "_law_row"] (spPick K) := ok_pick T
  refine T.Fl_some_end.ok (k := 2) scl_some_end (fun vs H Q E h => ?_) (fun cdv A outer s H vs Q E hr h => ?_)
  · obtain ⟨d, L, sc, ns, wide, rfl, _⟩ := h
    rfl
  obtain ⟨d, L, sc, ns, wide, rfl, hD, hsc, nsd, hne, hlen, q⟩ := h
  refine ⟨_, (pss_cons (ps_set (i := 3) scl_some_end.nd rfl (Or.inl rfl) (pe_ix ix_list (pe_lst (pa_cons pe_int (pa_cons (pe_call Gl_take (hr.mono (by omega)) (by rfl) T.gl_take T.Fl_take.kp T.bl_take .nil pass0 (pa_cons (pv 0) (pa_cons pe_int pa_nil))) (pa_cons (pe_call Gl_take (hr.mono (by omega)) (by rfl) T.gl_take T.Fl_take.kp T.bl_take .nil pass0 (pa_cons (pv 0) (pa_cons (pe_ix ix_list (pe_lst (pa_cons pe_int (pa_cons pe_int pa_nil))) (pe_callTy call_int1 (by rfl) T.mint (by decide +kernel) (pa_cons (pv 2) pa_nil)) (fun _ _ => rfl)) pa_nil))) pa_nil)))) (pe_call Gl_take (hr.mono (by omega)) (by rfl) T.gl_take T.Fl_take.kp T.bl_take .nil pass0 (pa_cons (pv 0) (pa_cons pe_int pa_nil))) (fun _ _ => rfl)))
 (pss_cons (ps_if (pt_cmpR op_eq (pe_call Gl_take (hr.mono (by omega)) (by rfl) T.gl_take T.Fl_take.kp T.bl_take .nil pass0 (pa_cons (pv 0) (pa_cons pe_int pa_nil))) pe_int (nomark _))
  (pss_one (ps_ret (pe_tup (pa_cons pe_str (pa_cons (pv 3) pa_nil)))))
  pss_nil)
 (pss_one (ps_ret (pe_tup (pa_cons (pe_call Gl_pick (hr.mono (by omega)) (by rfl) T.gl_pick T.Fl_pick.kp T.bl_pick .nil pass0 (pa_cons (pv 0) (pa_cons (pv 1) pa_nil))) (pa_cons (pe_op op_mul (pv 3) (pe_ix ix_list (pe_lst (pa_cons pe_int (pa_cons (pe_un un_neg pe_int) pa_nil))) (pe_call Gl_take (hr.mono (by omega)) (by rfl) T.gl_take T.Fl_take.kp T.bl_take .nil pass0 (pa_cons (pv 0) (pa_cons pe_int pa_nil))) (fun _ _ => rfl))) pa_nil))))))), ?_⟩
  -- more
  refine ⟨_, rfl, d, L, 5, rfl, hD, by decide, by decide, fun g1 H1 a1 b1 hD1 hB1 => ?_⟩
  have G1 : Go (· = d) H H1 := Go.but hD hB1 rfl
  refine ⟨_, rfl, (by show 2 ≤ sizeLine; decide), fun l nl => ?_⟩
  have hw : ∃ k : Int, atI [V.int 5, .int 100] (if wide = true then 1 else 0) = some (.int k) ∧ 1 ≤ k ∧ k ≤ 100 := by
    cases wide
    · exact ⟨5, rfl, by decide, by decide⟩
    · exact ⟨100, rfl, by decide, by decide⟩
  obtain ⟨kw, hkw, kw1, kw2⟩ := hw
  refine ⟨_, rfl, .inr ⟨wide, rfl, l, _, _, _, rfl, rfl, SqL.of upd_same, hkw, d, L, kw, rfl, hD1.new nl, kw1, by omega, fun g2 H2 a2 b2 hD2 hB2 => ?_⟩⟩
  have G2 : Go (· = d) H H2 := (G1.new nl).trans (Go.but (hD1.new nl) hB2 rfl)
  refine ⟨(by show 3 ≤ sizeLine; decide), fun l2 nl2 => ?_⟩
  refine ⟨_, rfl, d, L, 3, rfl, hD2.new nl2, by decide, by decide, fun g3 H3 a3 b3 hD3 hB3 => ?_⟩
  have G3 : Go (· = d) H H3 := (G2.new nl2).trans (Go.but (hD2.new nl2) hB3 rfl)
  have hl2 : H3 l2 = some (.lst [.int 0, .int g1, .int g2]) := by
    rw [hB3 l2 (hD2.neNew nl2).1]
    exact upd_same
  obtain ⟨v, hv, hm⟩ := atI_lt (xs := [V.int 0, .int g1, .int g2]) a3 b3
  obtain ⟨m, rfl, hm2⟩ := mem_ints3 hm
  have m0 : 0 ≤ m ∧ m ≤ 99 := by omega
  refine ⟨l2, _, g3, _, rfl, rfl, SqL.of hl2, hv, ?_⟩
  -- if take(draw, 3) == 0
  refine ⟨_, rfl, d, L, 3, rfl, hD3, by decide, by decide, fun g4 H4 a4 b4 hD4 hB4 => ?_⟩
  have G4 : Go (· = d) H H4 := G3.trans (Go.but hD3 hB4 rfl)
  refine ⟨rfl, _, rfl, ite2 (fun c1 => ?_) (fun c1 => ?_)⟩
  · refine ⟨_, rfl, (by show 2 ≤ sizeLine; decide), fun p np => ?_⟩
    exact q _ ("", m) _ (rp_tup upd_same (rpl_cons rfl (rpl_cons rfl rpl_nil))) (.inl ⟨rfl, m0.1, m0.2⟩) (hD4.new np) (G4.new np)
  · have hsc4 := G4.at hsc nsd
    have hpos : 0 < ns.length := List.length_pos_iff.mpr hne
    refine ⟨_, rfl, _, rfl, d, L, _, ns.length, rfl, hD4, hpos, by omega, .inr ⟨sc, ns.map V.str, rfl, nsd, SqL.of hsc4, List.length_map _, fun y H5 hy hD5 hB5 => ?_⟩⟩
    obtain ⟨x, rfl, hx⟩ := mem_strs hy
    have G5 : Go (· = d) H H5 := G4.trans (Go.but hD4 hB5 rfl)
    refine ⟨_, rfl, 1, rfl, (by show 2 ≤ sizeLine; decide), fun l3 nl3 => ?_⟩
    refine ⟨_, rfl, d, L, 2, rfl, hD5.new nl3, by decide, by decide, fun g6 H6 a6 b6 hD6 hB6 => ?_⟩
    have G6 : Go (· = d) H H6 := (G5.new nl3).trans (Go.but (hD5.new nl3) hB6 rfl)
    have hl3 : H6 l3 = some (.lst [.int 1, .int (-1)]) := by
      rw [hB6 l3 (hD5.neNew nl3).1]
      exact upd_same
    obtain ⟨v2, hv2, hmm⟩ := atI_lt (xs := [V.int 1, .int (-1)]) a6 b6
    obtain ⟨s2, rfl, hs2⟩ := mem_ints2 hmm
    refine ⟨l3, _, g6, _, rfl, rfl, SqL.of hl3, hv2, m, s2, rfl, rfl, .inl ⟨by omega, by omega⟩, ?_⟩
    refine ⟨(by show 2 ≤ sizeLine; decide), fun p np => ?_⟩
    have b1 : -99 ≤ m * s2 ∧ m * s2 ≤ 99 := by
      rcases hs2 with rfl | rfl
      · omega
      · omega
    exact q _ (x, m * s2) _ (rp_tup upd_same (rpl_cons rfl (rpl_cons rfl rpl_nil))) (.inr ⟨hx, b1.1, b1.2⟩) (hD6.new np) (G6.new np)
theorem ok_leaf (T : Tops K mg) : FnOk P w K mg base CX0 4 T.fl_leaf T.dl_leaf ["_law_draw", "_law_kit", "_law_scope", "_law_deep"] spLeaf := by
  have Gl_take : FnOk P w K mg base CX0 1 T.fl_take T.dl_take ["_law_draw", "_law_sides"] spTake := ok_take T
  refine T.Fl_leaf.ok (k := 3) scl_leaf (fun vs H Q E h => ?_) (fun cdv A outer s H vs Q E hr h => ?_)
  · obtain ⟨d, L, k, kd, sc, dp, r, fig, wide, rfl, _⟩ := h
    rfl
  obtain ⟨d, L, k, kd, sc, dp, r, fig, wide, rfl, hD, ⟨hk, hkd⟩, nkd, q⟩ := h
  refine ⟨_, (pss_cons (ps_setLc (i := 4) (own := [("_law_name", 5)]) rfl scl_leaf.nd rfl rfl (sw_true rfl rfl rfl (by decide +kernel)) (pi_list (pe_callB (call_sortedD rfl) (by rfl) T.msorted (by decide +kernel) (pa_cons (pe_ix ix_list (pv 1) pe_int (fun _ _ => rfl)) pa_nil))) (blkOk_by (N := Nl_leaf) (sc := defScope sl_leaf) (by decide +kernel)) (fun _ _ _ _ _ => (pg_name (i := 5) scl_leaf.nd rfl (Or.inl rfl))) (fun _ _ _ _ _ => (pts_one (PW.pt (pw_and (pt_cmpR op_lt (pe_op op_add (pe_ix (ix_tupK (K := K) rfl) (pe_dget (hu_of hr) (pe_ix (ix_listK (K := K) rfl) (pv 1) pe_int (fun _ _ => rfl)) (pv 5) (fun _ _ => rfl)) pe_int (fun _ _ => rfl)) (pv 3)) pe_int (nomark _)) (pw_and1 (pt_cmpR op_lt (pe_ix (ix_tupK (K := K) rfl) (pe_dget (hu_of hr) (pe_ix (ix_listK (K := K) rfl) (pv 1) pe_int (fun _ _ => rfl)) (pv 5) (fun _ _ => rfl)) pe_int (fun _ _ => rfl)) pe_int (nomark _))))))) (fun _ _ _ _ _ => (pv 5)))
 (pss_cons (ps_if (PW.pt (pw_and (pt_cmpR (op_neD hr.units) (pv 4) (pe_lst pa_nil) (nomark _)) (pw_and1 (pt_cmpR op_eq (pe_call Gl_take (hr.mono (by omega)) (by rfl) T.gl_take T.Fl_take.kp T.bl_take .nil pass0 (pa_cons (pv 0) (pa_cons pe_int pa_nil))) pe_int (nomark _)))))
  pss_never
  pss_nil)
 (pss_one (ps_ret (pe_tup (pa_cons pe_str (pa_cons (pe_ix ix_list (pe_lst (pa_cons (pe_call Gl_take (hr.mono (by omega)) (by rfl) T.gl_take T.Fl_take.kp T.bl_take .nil pass0 (pa_cons (pv 0) (pa_cons pe_int pa_nil))) (pa_cons (pe_call Gl_take (hr.mono (by omega)) (by rfl) T.gl_take T.Fl_take.kp T.bl_take .nil pass0 (pa_cons (pv 0) (pa_cons pe_int pa_nil))) pa_nil))) (pe_call Gl_take (hr.mono (by omega)) (by rfl) T.gl_take T.Fl_take.kp T.bl_take .nil pass0 (pa_cons (pv 0) (pa_cons pe_int pa_nil))) (fun _ _ => rfl)) pa_nil))))))), ?_⟩
  -- fit = []
  refine ⟨_, rfl, k, _, 1, _, rfl, rfl, SqL.of hk, rfl, kd, [], [], rfl, .inl hkd, rfl, by decide, fun ys p hperm _ np => ?_⟩
  have ey : ys = [] := List.Perm.eq_nil hperm
  subst ey
  refine ⟨p, rfl, ⟨_, SqL.of upd_same⟩, fun F nF => ?_⟩
  refine lc_list (xs := []) (fun i H' => H' = upd (upd H p (.lst [])) F (.lst [])) rfl (fun i H' _ e => by subst e; exact SqL.of (by rw [upd_ne (ne_of_none upd_same nF)]; exact upd_same)) (fun i x H' hx _ => by cases hx) (fun H' e => ?_)
  subst e
  have hD1 : Dr (upd (upd H p (.lst [])) F (.lst [])) d L := (hD.new np).new nF
  have G1 : Go (· = d) H (upd (upd H p (.lst [])) F (.lst [])) := ((Go.refl _ H).new np).new nF
  -- if fit != [] and ..
  refine ⟨_, rfl, Nat.zero_le _, fun e ne => ?_⟩
  have hF : (upd (upd (upd H p (.lst [])) F (.lst [])) e (.lst [])) F = some (.lst []) := by
    rw [upd_ne (ne_of_none upd_same ne)]
    exact upd_same
  refine ⟨.list [], .list [], .lst (SqL.of hF) .nil, .lst (SqL.of upd_same) .nil, by decide +kernel, by decide +kernel, ?_⟩
  have ee : PyData.eqv (.list []) (.list []) = true := by decide +kernel
  rw [ee]
  refine ⟨false, rfl, iteF ?_⟩
  have hD2 := hD1.new (o := .lst []) ne
  have G2 := G1.new (o := .lst []) ne
  refine iteF ?_
  -- return ('step', ..)
  refine ⟨_, rfl, d, L, 5, rfl, hD2, by decide, by decide, fun g3 H3 a3 b3 hD3 hB3 => ?_⟩
  have G3 := G2.trans (Go.but hD2 hB3 (M := (· = d)) rfl)
  refine ⟨_, rfl, d, L, 100, rfl, hD3, by decide, by decide, fun g4 H4 a4 b4 hD4 hB4 => ?_⟩
  have G4 := G3.trans (Go.but hD3 hB4 (M := (· = d)) rfl)
  refine ⟨(by show 2 ≤ sizeLine; decide), fun l nl => ?_⟩
  refine ⟨_, rfl, d, L, 2, rfl, hD4.new nl, by decide, by decide, fun g5 H5 a5 b5 hD5 hB5 => ?_⟩
  have G5 := (G4.new nl).trans (Go.but (hD4.new nl) hB5 (M := (· = d)) rfl)
  have hl : H5 l = some (.lst [.int g3, .int g4]) := by
    rw [hB5 l (hD4.neNew nl).1]
    exact upd_same
  obtain ⟨v, hv, hm⟩ := atI_lt (xs := [V.int g3, .int g4]) a5 b5
  obtain ⟨m, rfl, hm2⟩ := mem_ints2 hm
  refine ⟨l, _, g5, _, rfl, rfl, SqL.of hl, hv, (by show 2 ≤ sizeLine; decide), fun t nt => ?_⟩
  exact q _ (.step m) _ (rp_tup upd_same (rpl_cons rfl (rpl_cons rfl rpl_nil))) (fun _ _ => ⟨by omega, by omega⟩) rfl (hD5.new nt) (G5.new nt)
theorem ok_fresh (T : Tops K mg) : FnOk P w K mg base CX0 3 T.fl_fresh T.dl_fresh ["_law_draw", "_law_taken"] spFresh := by
  have Gl_take : FnOk P w K mg base CX0 1 T.fl_take T.dl_take ["_law_draw", "_law_sides"] spTake := ok_take T
  have Gl_pick : FnOk P w K mg base CX0 2 T.fl_pick T.dl_pick ["_law_draw", "_law_row"] (spPick K) := ok_pick T
  have Gl_kept_words : FnOk P w K mg base CX0 1 T.fl_kept_words T.dl_kept_words [] spKept := ok_kept T
  refine T.Fl_fresh.ok (k := 2) scl_fresh (fun vs H Q E h => ?_) (fun cdv A outer s H vs Q E hr h => ?_)
  · obtain ⟨d, L, sc, ns, rfl, _⟩ := h
    rfl
  obtain ⟨d, L, sc, ns, rfl, hD, hsc, nsd, hlen, q⟩ := h
  refine ⟨_, (pss_cons (ps_set (i := 2) scl_fresh.nd rfl (Or.inl rfl) (pe_ix ix_list (pe_lst (pa_cons pe_int (pa_cons pe_int (pa_cons pe_int (pa_cons pe_int (pa_cons pe_int (pa_cons (pe_op op_add pe_int (pe_call Gl_take (hr.mono (by omega)) (by rfl) T.gl_take T.Fl_take.kp T.bl_take .nil pass0 (pa_cons (pv 0) (pa_cons pe_int pa_nil)))) pa_nil))))))) (pe_call Gl_take (hr.mono (by omega)) (by rfl) T.gl_take T.Fl_take.kp T.bl_take .nil pass0 (pa_cons (pv 0) (pa_cons pe_int pa_nil))) (fun _ _ => rfl)))
 (pss_cons (ps_set (i := 3) scl_fresh.nd rfl (Or.inl rfl) (pe_join pe_str (pe_lc (own := [("_law_k", 6)]) rfl scl_fresh.nd (pi_range1 (by rfl) T.mrange (pa_cons (pv 2) pa_nil)) (blkOk_by (N := Nl_fresh) (sc := defScope sl_fresh) (by decide +kernel)) (fun _ _ _ _ _ => (pg_name (i := 6) scl_fresh.nd rfl (Or.inl rfl))) (fun _ _ _ _ _ => pts_nil) (fun _ _ _ _ _ => (pe_call Gl_pick (hr.mono (by omega)) (by rfl) T.gl_pick T.Fl_pick.kp T.bl_pick .nil pass0 (pa_cons (pv 0) (pa_cons pe_str pa_nil)))))))
 (pss_cut (ps_if (PW.pt (pw_and (pt_cmpR op_notIn_seq (pv 3) (pv 1) (by rfl)) (pw_and1 (pt_cmpR op_notIn_seq (pv 3) (pe_call0 Gl_kept_words (hr.mono (by omega)) (by rfl) T.gl_kept_words T.Fl_kept_words.kp T.bl_kept_words .nil pass0) (by rfl)))))
  (pss_one (ps_ret (pv 3)))
  pss_nil)
 (pss_cons (ps_setLc (i := 4) (own := [("_law_sign", 5)]) rfl scl_fresh.nd rfl rfl (sw_true rfl rfl rfl (by decide +kernel)) (pi_str pe_str) (blkOk_by (N := Nl_fresh) (sc := defScope sl_fresh) (by decide +kernel)) (fun _ _ _ _ _ => (pg_name (i := 5) scl_fresh.nd rfl (Or.inl rfl))) (fun _ _ _ _ _ => pts_nil) (fun _ _ _ _ _ => (pe_op op_repS (pv 5) pe_int)))
 (pss_one (ps_ret (pe_ix ix_list (pe_lc (own := [("_law_one", 7)]) rfl scl_fresh.nd (pi_list (pv 4)) (blkOk_by (N := Nl_fresh) (sc := defScope sl_fresh) (by decide +kernel)) (fun _ _ _ _ _ => (pg_name (i := 7) scl_fresh.nd rfl (Or.inl rfl))) (fun _ _ _ _ _ => (pts_one (pt_cmpR (op_notIn_seqK (K := K) rfl) (pv 7) (pv 1) (by rfl)))) (fun _ _ _ _ _ => (pv 7))) pe_int (fun _ _ => rfl)))))))), ?_⟩
  -- size
  refine ⟨_, rfl, d, L, 8, rfl, hD, by decide, by decide, fun g1 H1 a1 b1 hD1 hB1 => ?_⟩
  have G1 : Go (· = d) H H1 := Go.but hD hB1 rfl
  refine ⟨1, g1, rfl, rfl, (by show 6 ≤ sizeLine; decide), fun l nl => ?_⟩
  refine ⟨_, rfl, d, L, 6, rfl, hD1.new nl, by decide, by decide, fun g2 H2 a2 b2 hD2 hB2 => ?_⟩
  have G2 : Go (· = d) H H2 := (G1.new nl).trans (Go.but (hD1.new nl) hB2 rfl)
  have hl : H2 l = some (.lst [.int 1, .int 1, .int 2, .int 3, .int 8, .int (1 + g1)]) := by
    rw [hB2 l (hD1.neNew nl).1]
    exact upd_same
  obtain ⟨v, hv, hm⟩ := atI_lt (xs := [V.int 1, .int 1, .int 2, .int 3, .int 8, .int (1 + g1)]) a2 b2
  obtain ⟨m, rfl, hm2⟩ := mem_ints (ns := [1, 1, 2, 3, 8, 1 + g1]) hm
  have m1 : 1 ≤ m ∧ m ≤ 8 := by
    simp only [List.mem_cons, List.not_mem_nil, or_false] at hm2
    omega
  refine ⟨l, _, g2, _, rfl, rfl, SqL.of hl, hv, ?_⟩
  -- name
  refine ⟨⟨_, rfl⟩, _, rfl, m, rfl, by omega, by omega, fun Dn nD => ?_⟩
  refine lc_range (lo := 0) (n := m.toNat) (fun i H' => Dr H' d L ∧ Go (· = d) H H' ∧ ∃ cs : List Nat, cs.length = i ∧ (∀ c ∈ cs, c ∈ abc) ∧ H' Dn = some (.lst ((cs.map fun c => S [c]).map V.str))) ⟨hD2.new nD, G2.new nD, [], rfl, (fun _ h => by cases h), upd_same⟩ (fun j H4 hj hP => ?_) (fun H4 hP => ?_)
  · obtain ⟨hD4, G4, cs, hcs, hab, hl4⟩ := hP
    refine ⟨rfl, yes_go ?_⟩
    refine ⟨_, rfl, d, L, _, 26, rfl, hD4, by decide, by decide, .inl ⟨_, rfl, by decide +kernel, fun c H5 hc hD5 hB5 => ?_⟩⟩
    have nDd := hD2.neNew nD
    have hl5 : H5 Dn = some (.lst ((cs.map fun c => S [c]).map V.str)) := by
      rw [hB5 Dn nDd.1]
      exact hl4
    have nH : H Dn = none := G2.free nD nDd.1
    refine ⟨_, hl5, ?_, hD5.upd nDd.1 nDd.2, (G4.trans (Go.but hD4 hB5 rfl)).own nH, cs ++ [c], ?_, ?_, ?_⟩
    · rw [List.length_map, List.length_map]
      exact szl (by omega)
    · rw [List.length_append, hcs]
      rfl
    · intro x hx
      rcases List.mem_append.mp hx with h1 | h1
      · exact hab x h1
      · rw [List.mem_singleton.mp h1]
        exact hc
    · rw [upd_same, List.map_append, List.map_append]
      rfl
  · obtain ⟨hD4, G4, cs, hcs, hab, hl4⟩ := hP
    refine ⟨_, Dn, cs.map fun c => S [c], rfl, rfl, .inl (SqL.of hl4), ?_, ?_⟩
    · rw [sum_ones, List.length_map]
      have : ("" : Str).length = 0 := by decide +kernel
      rw [this]
      omega
    rw [join_signs]
    have hsc4 := G4.at hsc nsd
    have hcl : 1 ≤ cs.length ∧ cs.length ≤ 8 := by omega
    have flat : ∀ zs : List Str, (zs.map V.str).all flatV = true := fun zs => by
      rw [List.all_eq_true]
      intro x hx
      obtain ⟨z, _, rfl⟩ := List.mem_map.mp hx
      rfl
    refine ⟨fun σ' H' => (∃ x2 x3 x4 x5 x6 x7, σ' = [some (.ref d), some (.ref sc), x2, x3, x4, x5, x6, x7]) ∧ Dr H' d L ∧ Go (· = d) H H', ?_, ?_⟩
    · refine ⟨_, rfl, _, rfl, sc, _, rfl, .inl (SqL.of hsc4), rfl, flat ns, _, rfl, ite2 (fun c1 => ?_) (fun c1 => ?_)⟩
      · refine ⟨_, rfl, rfl, fun p H5 np e5 => ?_⟩
        subst e5
        refine ⟨p, _, rfl, .inl (SqL.of upd_same), rfl, flat kept, _, rfl, ite2 (fun c2 => ?_) (fun c2 => ?_)⟩
        · have n1 : S cs ∉ ns := fun hn => by
            have c3 : (!inV (.str (S cs)) (ns.map V.str)) = true := c1
            rw [inV_str, decide_eq_true hn] at c3
            cases c3
          have n2 : S cs ∉ kept := fun hn => by
            have c3 : (!inV (.str (S cs)) (kept.map V.str)) = true := c2
            rw [inV_str, decide_eq_true hn] at c3
            cases c3
          exact ⟨_, rfl, q _ _ (name_of hcl.1 hcl.2 n2 hab) n1 (hD4.new np) (G4.new np)⟩
        · exact ⟨⟨_, _, _, _, _, _, rfl⟩, hD4.new np, G4.new np⟩
      · exact ⟨⟨_, _, _, _, _, _, rfl⟩, hD4, G4⟩
    · rintro σ' H5 ⟨⟨x2, x3, x4, x5, x6, x7, rfl⟩, hD5, G5⟩
      -- spare
      refine ⟨_, rfl, fun Sp nS => ?_⟩
      refine lc_str_val (fun c => .str (S [c, c])) 5 rfl (fun v => rfl) (by decide +kernel) nS (fun c _ H2 Q2 _ h => ⟨_, rfl, _, 2, rfl, rfl, by decide, by decide, by show 1 * 2 ≤ 100000; decide, h⟩) (fun H6 sm6 hl6 => ?_)
      have hD6 := hD5.same sm6
      have G6 : Go (· = d) H H6 := G5.trans (Go.same sm6)
      have hl6' : H6 Sp = some (.lst (spare.map V.str)) := by
        rw [hl6]
        unfold spare
        rw [List.map_map]
        rfl
      have nS6 := hD5.neNew nS
      -- the first that is not taken
      refine ⟨_, rfl, Sp, rfl, ⟨_, SqL.of hl6'⟩, fun R nR => ?_⟩
      refine lc_list (xs := spare.map V.str) (fun i H' => Same H6 H' ∧ H' R = some (.lst (((spare.take i).filter fun x => !decide (x ∈ ns)).map V.str))) ⟨same_new nR, upd_same⟩ (fun i H' _ hP => SqL.of (hP.1 _ _ hl6')) (fun i x H' hx hP => ?_) (fun H' hP => ?_)
      · obtain ⟨sm, hl7⟩ := hP
        have hx2 : ∃ z, spare[i]? = some z ∧ x = .str z := by
          rw [List.getElem?_map] at hx
          cases hz : spare[i]? with
          | none => rw [hz] at hx; cases hx
          | some z => rw [hz] at hx; exact ⟨z, rfl, (Option.some.inj hx).symm⟩
        obtain ⟨z, hz, rfl⟩ := hx2
        refine ⟨rfl, ?_⟩
        refine ⟨_, rfl, _, rfl, sc, _, rfl, .inl (SqL.of (sm _ _ (G6.at hsc nsd))), rfl, flat ns, _, rfl, ite2 (fun c2 => ?_) (fun c2 => ?_)⟩
        · refine ⟨_, rfl, _, hl7, ?_, Same.upd_new sm nR, ?_⟩
          · rw [List.length_map]
            have h1 : ((spare.take i).filter fun x => !decide (x ∈ ns)).length ≤ (spare.take i).length := List.length_filter_le _ _
            have h2 : (spare.take i).length ≤ spare.length := by rw [List.length_take]; omega
            have h3 : spare.length = 26 := by decide +kernel
            exact szl (by omega)
          · have c3 : (!inV (.str z) (ns.map V.str)) = true := c2
            rw [inV_str] at c3
            rw [upd_same, List.take_add_one, hz, List.filter_append, List.map_append]
            have e : (Option.toList (some z)).filter (fun x => !decide (x ∈ ns)) = [z] := by
              show List.filter (fun x => !decide (x ∈ ns)) [z] = [z]
              rw [List.filter_cons, if_pos c3]
              rfl
            rw [e]
            rfl
        · have c3 : (!inV (.str z) (ns.map V.str)) = false := Bool.eq_false_iff.mpr c2
          rw [inV_str] at c3
          refine ⟨sm, ?_⟩
          rw [hl7, List.take_add_one, hz, List.filter_append]
          have e : (Option.toList (some z)).filter (fun x => !decide (x ∈ ns)) = [] := by
            show List.filter (fun x => !decide (x ∈ ns)) [z] = []
            rw [List.filter_cons, if_neg (by rw [c3]; exact Bool.false_ne_true)]
            rfl
          rw [e, List.append_nil]
      · obtain ⟨sm, hl7⟩ := hP
        rw [List.length_map, List.take_length] at hl7
        have hf : ∃ z r, (spare.filter fun x => !decide (x ∈ ns)) = z :: r ∧ z ∈ spare ∧ z ∉ ns := by
          cases hfl : spare.filter fun x => !decide (x ∈ ns) with
          | nil =>
            obtain ⟨x, hx, hn⟩ := spare_free hlen
            have : x ∈ spare.filter fun x => !decide (x ∈ ns) := List.mem_filter.mpr ⟨hx, by simp [hn]⟩
            rw [hfl] at this
            cases this
          | cons z r =>
            have : z ∈ spare.filter fun x => !decide (x ∈ ns) := by rw [hfl]; exact List.mem_cons_self
            obtain ⟨h1, h2⟩ := List.mem_filter.mp this
            exact ⟨z, r, rfl, h1, by simpa using h2⟩
        obtain ⟨z, r, he, hz1, hz2⟩ := hf
        rw [he] at hl7
        refine ⟨R, _, 0, .str z, rfl, rfl, SqL.of hl7, atI_nat (j := 0) rfl, ?_⟩
        exact q z H' (spare_name hz1) hz2 (hD6.same sm) (G6.trans (Go.same sm))
/-- what drawn_body promises to a thing with n brackets left -/
def prevB : Nat → Sp
  | 0 => fun _ _ _ _ => False
  | m + 1 => spDrawBody m
theorem ok_drawn_thing (T : Tops K mg) (n : Nat) (Gl_drawn_body : FnOk P w K mg base CX0 (4 + 2 * n) T.fl_drawn_body T.dl_drawn_body ["_law_draw", "_law_kit", "_law_scope", "_law_deep"] (prevB n)) :
    FnOk P w K mg base CX0 (5 + 2 * n) T.fl_drawn_thing T.dl_drawn_thing ["_law_draw", "_law_kit", "_law_scope", "_law_deep"] (spDrawThing n) := by
  have Gl_take : FnOk P w K mg base CX0 1 T.fl_take T.dl_take ["_law_draw", "_law_sides"] spTake := ok_take T
  have Gl_leaf : FnOk P w K mg base CX0 4 T.fl_leaf T.dl_leaf ["_law_draw", "_law_kit", "_law_scope", "_law_deep"] spLeaf := ok_leaf T
  have Gl_some_end : FnOk P w K mg base CX0 3 T.fl_some_end T.dl_some_end ["_law_draw", "_law_scope", "_law_wide"] spSomeEnd := ok_some_end T
  have Gl_fresh : FnOk P w K mg base CX0 3 T.fl_fresh T.dl_fresh ["_law_draw", "_law_taken"] spFresh := ok_fresh T
  have elev : 5 + 2 * n = (4 + 2 * n) + 1 := by omega
  rw [elev]
  refine T.Fl_drawn_thing.ok (k := 4 + 2 * n) scl_drawn_thing (fun vs H Q E h => ?_) (fun cdv A outer s H vs Q E hr h => ?_)
  · obtain ⟨d, L, k, kd, sc, r, fig, wide, ns, rfl, _⟩ := h
    rfl
  obtain ⟨d, L, k, kd, sc, r, fig, wide, ns, rfl, hD, ⟨hk, hkd⟩, nkd, nkL, r1, r2, hsc, nsd, nsk, hSc, hne, hlen, q⟩ := h
  refine ⟨_, (pss_cons (ps_asg (pe_op op_sub (pe_ix ix_list (pv 1) pe_int (fun _ _ => rfl)) pe_int) (pg_sub (pv 1) pe_int set_list))
 (pss_cons (ps_set (i := 4) scl_drawn_thing.nd rfl (Or.inl rfl) (pe_call Gl_take (hr.mono (by omega)) (by rfl) T.gl_take T.Fl_take.kp T.bl_take .nil pass0 (pa_cons (pv 0) (pa_cons pe_int pa_nil))))
 (pss_cons (ps_if (PW.pt (pw_or (pt_cmpR op_lt (pe_ix ix_list (pv 1) pe_int (fun _ _ => rfl)) pe_int (nomark _)) (pw_or (pt_cmpR op_gt (pv 3) pe_int (nomark _)) (pw_or1 (pt_cmpR op_lt (pv 4) pe_int (nomark _))))))
  (pss_one (ps_ret (pe_call Gl_leaf (hr.mono (by omega)) (by rfl) T.gl_leaf T.Fl_leaf.kp T.bl_leaf .nil pass0 (pa_cons (pv 0) (pa_cons (pv 1) (pa_cons (pv 2) (pa_cons (pv 3) pa_nil)))))))
  pss_nil)
 (pss_cut (ps_if (PW.pt (pw_and (pt_cmpR op_eq (pv 4) pe_int (nomark _)) (pw_and1 (pt_val (pe_ix ix_list (pv 1) pe_int (fun _ _ => rfl))))))
  (pss_one (ps_ret (pe_tup (pa_cons pe_str (pa_cons (pe_call Gl_drawn_body (hr.mono (by omega)) (by rfl) T.gl_drawn_body T.Fl_drawn_body.kp T.bl_drawn_body .nil pass0 (pa_cons (pv 0) (pa_cons (pv 1) (pa_cons (pv 2) (pa_cons (pe_op op_add (pv 3) pe_int) pa_nil))))) pa_nil)))))
  pss_nil)
 (pss_cons (ps_par (i := 7) (j := 8) (by rfl) scl_drawn_thing.nd rfl rfl (by decide) rfl rfl (pa_cons (pe_call Gl_some_end (hr.mono (by omega)) (by rfl) T.gl_some_end T.Fl_some_end.kp T.bl_some_end .nil pass0 (pa_cons (pv 0) (pa_cons (pv 2) (pa_cons (pe_ix ix_list (pv 1) pe_int (fun _ _ => rfl)) pa_nil)))) (pa_cons (pe_call Gl_some_end (hr.mono (by omega)) (by rfl) T.gl_some_end T.Fl_some_end.kp T.bl_some_end .nil pass0 (pa_cons (pv 0) (pa_cons (pv 2) (pa_cons (pe_ix ix_list (pv 1) pe_int (fun _ _ => rfl)) pa_nil)))) pa_nil)) (by rfl))
 (pss_cons (ps_if (pt_cmpR op_lt (pv 4) pe_int (nomark _))
  (pss_cons (ps_set (i := 9) scl_drawn_thing.nd rfl (Or.inl rfl) (pe_call Gl_fresh (hr.mono (by omega)) (by rfl) T.gl_fresh T.Fl_fresh.kp T.bl_fresh .nil pass0 (pa_cons (pv 0) (pa_cons (pv 2) pa_nil))))
 (pss_one (ps_ret (pe_tup (pa_cons pe_str (pa_cons (pv 9) (pa_cons (pv 7) (pa_cons (pv 8) (pa_cons (pe_call Gl_drawn_body (hr.mono (by omega)) (by rfl) T.gl_drawn_body T.Fl_drawn_body.kp T.bl_drawn_body .nil pass0 (pa_cons (pv 0) (pa_cons (pv 1) (pa_cons (pe_op op_cat (pv 2) (pe_lst (pa_cons (pv 9) pa_nil))) (pa_cons (pe_op op_add (pv 3) pe_int) pa_nil))))) pa_nil)))))))))
  pss_nil)
 (pss_cons (ps_asg (pe_op op_sub (pe_ix ix_list (pv 1) pe_int (fun _ _ => rfl)) pe_int) (pg_sub (pv 1) pe_int set_list))
 (pss_cons (ps_set (i := 5) scl_drawn_thing.nd rfl (Or.inl rfl) (pe_call Gl_drawn_body (hr.mono (by omega)) (by rfl) T.gl_drawn_body T.Fl_drawn_body.kp T.bl_drawn_body .nil pass0 (pa_cons (pv 0) (pa_cons (pv 1) (pa_cons (pv 2) (pa_cons (pe_op op_add (pv 3) pe_int) pa_nil))))))
 (pss_cons (ps_asg (pe_op op_add (pe_ix ix_list (pv 1) pe_int (fun _ _ => rfl)) pe_int) (pg_sub (pv 1) pe_int set_list))
 (pss_cut (ps_set (i := 6) scl_drawn_thing.nd rfl (Or.inl rfl) (pe_ifExp (pt_cmpR op_eq (pe_call Gl_take (hr.mono (by omega)) (by rfl) T.gl_take T.Fl_take.kp T.bl_take .nil pass0 (pa_cons (pv 0) (pa_cons pe_int pa_nil))) pe_int (nomark _)) (pe_tup pa_nil) (pe_call Gl_drawn_body (hr.mono (by omega)) (by rfl) T.gl_drawn_body T.Fl_drawn_body.kp T.bl_drawn_body .nil pass0 (pa_cons (pv 0) (pa_cons (pv 1) (pa_cons (pv 2) (pa_cons (pe_op op_add (pv 3) pe_int) pa_nil)))))))
 (pss_one (ps_ret (pe_tup (pa_cons pe_str (pa_cons (pv 7) (pa_cons (pv 8) (pa_cons (pv 5) (pa_cons (pv 6) pa_nil)))))))))))))))))), ?_⟩
  have ndk : kd ≠ k := ne_of hkd hk (fun z => by cases z)
  have ndd : kd ≠ d := by
    obtain ⟨zs, i0, i1, i2, z1, _⟩ := hD
    exact ne_of hkd z1 (fun z => by cases z)
  have nMsc : ¬ M2 d k sc := fun z => z.elim nsd nsk
  have nMkd : ¬ M2 d k kd := fun z => z.elim ndd ndk
  -- kit[0] = kit[0] - 1
  refine ⟨_, rfl, k, _, 0, _, rfl, rfl, SqL.of hk, rfl, (r : Int), 1, rfl, rfl, _, rfl, k, _, 0, 0, rfl, rfl, hk, rfl, ?_⟩
  have er : (r : Int) - 1 = ((r - 1 : Nat) : Int) := by omega
  have hk1 : (upd H k (.lst [.int ((r : Int) - 1), .ref kd, .bl fig, .bl wide])) k = some (.lst [.int ((r - 1 : Nat) : Int), .ref kd, .bl fig, .bl wide]) := by rw [upd_same, er]
  have hD1 : Dr (upd H k (.lst [.int ((r : Int) - 1), .ref kd, .bl fig, .bl wide])) d L := hD.upd nkd nkL
  have G1 : Go (M2 d k) H (upd H k (.lst [.int ((r : Int) - 1), .ref kd, .bl fig, .bl wide])) := (Go.refl _ H).set (.inr rfl) hk
  -- fork
  refine ⟨_, rfl, d, L, 9, rfl, hD1, by decide, by decide, fun f H2 f0 f1 hD2 hB2 => ?_⟩
  have G2 : Go (M2 d k) H H2 := G1.trans (Go.but hD1 hB2 (.inl rfl))
  have hk2 : H2 k = some (.lst [.int ((r - 1 : Nat) : Int), .ref kd, .bl fig, .bl wide]) := by
    rw [hB2 k nkd]
    exact hk1
  have hkd2 : H2 kd = some (.dK []) := G2.at hkd nMkd
  have hsc2 : H2 sc = some (.lst (ns.map V.str)) := G2.at hsc nMsc
  have hleaf : spLeaf [.ref d, .ref k, .ref sc, .int (4 - n)] H2 Q E0 := ⟨d, L, k, kd, sc, _, _, fig, wide, rfl, hD2, ⟨hk2, hkd2⟩, nkd, fun v t H3 hR hT hc hD3 G3 =>
    q v 1 (r - 1) H3 ⟨t, hR, hT ns n, hc⟩ (by omega) hD3 ⟨G3.at hk2 nkd, G3.at hkd2 ndd⟩ (G2.trans (G3.mono fun b e => .inl e))⟩
  refine ⟨_, rfl, k, _, 0, _, rfl, rfl, SqL.of hk2, rfl, _, 2, rfl, rfl, _, rfl, ite2 (fun c1 => ?_) (fun c1 => ?_)⟩
  · exact iteT ⟨_, rfl, _, rfl, _, rfl, _, rfl, hleaf⟩
  refine ⟨_, rfl, _, 3, rfl, rfl, _, rfl, ite2 (fun c2 => ?_) (fun c2 => ?_)⟩
  · exact iteT ⟨_, rfl, _, rfl, _, rfl, _, rfl, hleaf⟩
  refine ⟨_, rfl, _, 2, rfl, rfl, _, rfl, ite2 (fun c3 => ?_) (fun c3 => ?_)⟩
  · exact ⟨_, rfl, _, rfl, _, rfl, _, rfl, hleaf⟩
  have d1 : ¬ (((r - 1 : Nat) : Int) < 2) := fun z => c1 (decide_eq_true z)
  have d2 : ¬ ((3 : Int) < 4 - (n : Int)) := fun z => c2 (decide_eq_true z)
  cases n with
  | zero => exact absurd (by decide) d2
  | succ m =>
  have edeep : (4 - ((m + 1 : Nat) : Int) + 1) = 4 - (m : Int) := by omega
  have eargs : ∀ c : Addr, ([.ref d, .ref k, .ref c, .int (4 - ((m + 1 : Nat) : Int) + 1)] : List V) = [.ref d, .ref k, .ref c, .int (4 - (m : Int))] := fun c => by rw [edeep]
  -- double
  refine ⟨fun σ' H' => σ' = [some (.ref d), some (.ref k), some (.ref sc), some (.int (4 - ((m + 1 : Nat) : Int))), some (.int f), none, none, none, none, none] ∧ H' = H2, ?_, ?_⟩
  · refine ⟨_, rfl, rfl, _, rfl, ite2 (fun c4 => ?_) (fun c4 => ?_)⟩
    · refine ⟨_, rfl, k, _, 2, _, rfl, rfl, SqL.of hk2, rfl, fig, rfl, ite2 (fun c5 => ?_) (fun c5 => ?_)⟩
      · refine ⟨_, rfl, _, rfl, _, rfl, _, rfl, _, 1, rfl, rfl, d, L, k, kd, sc, r - 1, fig, wide, ns, eargs sc, hD2, ⟨hk2, hkd2⟩, nkd, nkL, by omega, by omega, hsc2, nsd, nsk, hSc, hne, by omega, fun v c r' H3 hp e hD3 hK3 G3 => ?_⟩
        obtain ⟨ts, hts, hR, hT, hc⟩ := hp
        refine ⟨(by show 2 ≤ sizeLine; decide), fun p np => ?_⟩
        exact q _ (1 + c) r' _ ⟨.twice ts, rp_tup upd_same (rpl_cons rfl (rpl_cons (hR.to (Imm.same (same_new np))) rpl_nil)), ⟨hts, m, rfl, hT⟩, by rw [← hc]; rfl⟩ (by omega) (hD3.new np)
          ⟨same_new np _ _ hK3.1, same_new np _ _ hK3.2⟩ ((G2.trans G3).new np)
      · exact ⟨rfl, rfl⟩
    · exact ⟨rfl, rfl⟩
  rintro σ' H' ⟨rfl, rfl⟩
  -- one, other
  refine ⟨_, rfl, _, rfl, _, rfl, k, _, 3, _, rfl, rfl, SqL.of hk2, rfl, d, L, sc, ns, wide, rfl, hD2, hsc2, nsd, hne, by omega, fun v1 e1 H3 hR1 hE1 hD3 G23 => ?_⟩
  have G3 : Go (M2 d k) H H3 := G2.trans (G23.mono fun b e => .inl e)
  have hk3 := G23.at hk2 nkd
  have hkd3 := G23.at hkd2 ndd
  have hsc3 := G23.at hsc2 nsd
  refine ⟨_, rfl, _, rfl, _, rfl, k, _, 3, _, rfl, rfl, SqL.of hk3, rfl, d, L, sc, ns, wide, rfl, hD3, hsc3, nsd, hne, by omega, fun v2 e2 H4 hR2 hE2 hD4 G34 => ?_⟩
  have G4 : Go (M2 d k) H H4 := G3.trans (G34.mono fun b e => .inl e)
  have hk4 := G34.at hk3 nkd
  have hkd4 := G34.at hkd3 ndd
  have hsc4 := G34.at hsc3 nsd
  have hR1' : Rp H4 v1 (encE e1) := hR1.to G34.im
  refine ⟨_, _, rfl, ?_⟩
  refine ⟨_, rfl, _, 6, rfl, rfl, _, rfl, ite2 (fun c6 => ?_) (fun c6 => ?_)⟩
  · -- for
    refine ⟨_, rfl, _, rfl, d, L, sc, ns, rfl, hD4, hsc4, nsd, by omega, fun x H5 hx hxn hD5 G45 => ?_⟩
    have G5 : Go (M2 d k) H H5 := G4.trans (G45.mono fun b e => .inl e)
    have hk5 := G45.at hk4 nkd
    have hkd5 := G45.at hkd4 ndd
    have hsc5 := G45.at hsc4 nsd
    refine ⟨_, rfl, _, rfl, _, rfl, _, rfl, _, rfl, _, rfl, _, rfl, (by show 1 ≤ sizeLine; decide), fun l nl => ?_⟩
    have s5 : Same H5 (upd H5 l (.lst [.str x])) := same_new nl
    refine ⟨sc, l, _, _, rfl, rfl, s5 _ _ hsc5, upd_same, ?_, fun s2 ns2 => ?_⟩
    · rw [List.length_map]
      show ns.length + 1 ≤ sizeLine
      exact sz (by omega)
    have s6 : Same H5 (upd (upd H5 l (.lst [.str x])) s2 (.lst (ns.map V.str ++ [.str x]))) := s5.trans (same_new ns2)
    have hD6 := (hD5.new (o := .lst [.str x]) nl).new (o := .lst (ns.map V.str ++ [.str x])) ns2
    have nn := (hD5.new (o := .lst [.str x]) nl).neNew ns2
    have n2k : s2 ≠ k := (ne_of_none (s5 _ _ hk5) ns2).symm
    have hs2 : (upd (upd H5 l (.lst [.str x])) s2 (.lst (ns.map V.str ++ [.str x]))) s2 = some (.lst ((ns ++ [x]).map V.str)) := by
      rw [upd_same, List.map_append]
      rfl
    refine ⟨_, rfl, _, 1, rfl, rfl, d, L, k, kd, s2, r - 1, fig, wide, ns ++ [x], eargs s2, hD6, ⟨s6 _ _ hk5, s6 _ _ hkd5⟩, nkd, nkL, by omega, by omega, hs2, nn.1, n2k, scOk_snoc hSc hx, by simp, by rw [List.length_append]; show ns.length + 1 + m ≤ 20; omega, fun v c r' H7 hp e hD7 hK7 G67 => ?_⟩
    obtain ⟨ts, hts, hR, hT, hc⟩ := hp
    have i57 : Imm H5 H7 := (Imm.same s6).trans G67.im
    refine ⟨(by show 5 ≤ sizeLine; decide), fun p np => ?_⟩
    have i7 : Imm H7 (upd H7 p (.tup [.str "for", .str x, v1, v2, v])) := Imm.same (same_new np)
    exact q _ (1 + c) r' _ ⟨.loop x e1 e2 ts, rp_tup upd_same (rpl_cons rfl (rpl_cons rfl (rpl_cons (hR1'.to ((G45.im.trans i57).trans i7)) (rpl_cons (hR2.to ((G45.im.trans i57).trans i7)) (rpl_cons (hR.to i7) rpl_nil))))), ⟨hx, hxn, hE1, hE2, hts, m, rfl, hT⟩, by rw [← hc]; rfl⟩ (by omega) (hD7.new np)
      ⟨same_new np _ _ hK7.1, same_new np _ _ hK7.2⟩ (((G5.trans (Go.same s6)).trans G67).new np)
  · -- if
    refine ⟨_, rfl, k, _, 0, _, rfl, rfl, SqL.of hk4, rfl, _, 1, rfl, rfl, _, rfl, k, _, 0, 0, rfl, rfl, hk4, rfl, ?_⟩
    have er2 : ((r - 1 : Nat) : Int) - 1 = ((r - 2 : Nat) : Int) := by omega
    have hD5 : Dr (upd H4 k (.lst [.int (((r - 1 : Nat) : Int) - 1), .ref kd, .bl fig, .bl wide])) d L := hD4.upd nkd nkL
    have G5 : Go (M2 d k) H (upd H4 k (.lst [.int (((r - 1 : Nat) : Int) - 1), .ref kd, .bl fig, .bl wide])) := G4.set (.inr rfl) hk4
    have i45 : Imm H4 (upd H4 k (.lst [.int (((r - 1 : Nat) : Int) - 1), .ref kd, .bl fig, .bl wide])) := (Imm.refl H4).upd fun xs e => by rw [hk4] at e; cases e
    have hkd5 : (upd H4 k (.lst [.int (((r - 1 : Nat) : Int) - 1), .ref kd, .bl fig, .bl wide])) kd = some (.dK []) := by
      rw [upd_ne ndk]
      exact hkd4
    have hsc5 : (upd H4 k (.lst [.int (((r - 1 : Nat) : Int) - 1), .ref kd, .bl fig, .bl wide])) sc = some (.lst (ns.map V.str)) := by
      rw [upd_ne nsk]
      exact hsc4
    have hk5 : (upd H4 k (.lst [.int (((r - 1 : Nat) : Int) - 1), .ref kd, .bl fig, .bl wide])) k = some (.lst [.int ((r - 2 : Nat) : Int), .ref kd, .bl fig, .bl wide]) := by rw [upd_same, er2]
    refine ⟨_, rfl, _, rfl, _, rfl, _, rfl, _, 1, rfl, rfl, d, L, k, kd, sc, r - 2, fig, wide, ns, eargs sc, hD5, ⟨hk5, hkd5⟩, nkd, nkL, by omega, by omega, hsc5, nsd, nsk, hSc, hne, by omega, fun vb cb rb H6 hp eb hD6 hK6 G56 => ?_⟩
    obtain ⟨bs, hbs, hRb, hTb, hcb⟩ := hp
    have G6 := G5.trans G56
    have i46 : Imm H4 H6 := i45.trans G56.im
    refine ⟨_, rfl, k, _, 0, _, rfl, rfl, SqL.of hK6.1, rfl, _, 1, rfl, rfl, _, rfl, k, _, 0, 0, rfl, rfl, hK6.1, rfl, ?_⟩
    have er3 : ((rb : Nat) : Int) + 1 = ((rb + 1 : Nat) : Int) := by omega
    have hD7 : Dr (upd H6 k (.lst [.int (((rb : Nat) : Int) + 1), .ref kd, .bl fig, .bl wide])) d L := hD6.upd nkd nkL
    have G7 : Go (M2 d k) H (upd H6 k (.lst [.int (((rb : Nat) : Int) + 1), .ref kd, .bl fig, .bl wide])) := G6.set (.inr rfl) hK6.1
    have i67 : Imm H6 (upd H6 k (.lst [.int (((rb : Nat) : Int) + 1), .ref kd, .bl fig, .bl wide])) := (Imm.refl H6).upd fun xs e => by rw [hK6.1] at e; cases e
    have hkd7 : (upd H6 k (.lst [.int (((rb : Nat) : Int) + 1), .ref kd, .bl fig, .bl wide])) kd = some (.dK []) := by
      rw [upd_ne ndk]
      exact hK6.2
    have hsc7 : (upd H6 k (.lst [.int (((rb : Nat) : Int) + 1), .ref kd, .bl fig, .bl wide])) sc = some (.lst (ns.map V.str)) := by
      rw [upd_ne nsk]
      exact G56.at hsc5 nMsc
    have i47 := i46.trans i67
    have hk7 : (upd H6 k (.lst [.int (((rb : Nat) : Int) + 1), .ref kd, .bl fig, .bl wide])) k = some (.lst [.int ((rb + 1 : Nat) : Int), .ref kd, .bl fig, .bl wide]) := by rw [upd_same, er3]
    refine ⟨fun σ' H' => ∃ vy ys ry, σ' = [some (.ref d), some (.ref k), some (.ref sc), some (.int (4 - ((m + 1 : Nat) : Int))), some (.int f), some vb, some vy, some v1, some v2, none] ∧ Rp H' vy (.tup (encs ys)) ∧ TsOk C0 False ns m ys ∧ cntB ys + ry = rb + 1 ∧
      Dr H' d L ∧ Kt H' k kd ry fig wide ∧ Go (M2 d k) H H' ∧ Imm H4 H' ∧ Imm H6 H', ?_, ?_⟩
    · refine ⟨_, rfl, d, L, 2, rfl, hD7, by decide, by decide, fun g H8 a8 b8 hD8 hB8 => ?_⟩
      have G78 : Go (· = d) (upd H6 k (.lst [.int (((rb : Nat) : Int) + 1), .ref kd, .bl fig, .bl wide])) H8 := Go.but hD7 hB8 rfl
      have G8 := G7.trans (G78.mono fun b e => .inl e)
      have hk8 := G78.at hk7 nkd
      have hkd8 := G78.at hkd7 ndd
      have hsc8 := G78.at hsc7 nsd
      refine ⟨rfl, _, rfl, ite2 (fun c7 => ?_) (fun c7 => ?_)⟩
      · refine ⟨Nat.zero_le _, fun p np => ?_⟩
        have s9 : Same H8 (upd H8 p (.tup [])) := same_new np
        exact ⟨.ref p, [], rb + 1, rfl, rp_tup upd_same rpl_nil, trivial, Nat.zero_add _, hD8.new np, ⟨s9 _ _ hk8, s9 _ _ hkd8⟩, G8.new np, (i47.trans G78.im).trans (Imm.same s9), (i67.trans G78.im).trans (Imm.same s9)⟩
      · refine ⟨_, rfl, _, rfl, _, rfl, _, rfl, _, 1, rfl, rfl, d, L, k, kd, sc, rb + 1, fig, wide, ns, eargs sc, hD8, ⟨hk8, hkd8⟩, nkd, nkL, by omega, by omega, hsc8, nsd, nsk, hSc, hne, by omega, fun vy cy ry H9 hp ey hD9 hK9 G89 => ?_⟩
        obtain ⟨ys, hys, hRy, hTy, hcy⟩ := hp
        exact ⟨vy, ys, ry, rfl, hRy, hTy, by omega, hD9, hK9, G8.trans G89, (i47.trans G78.im).trans G89.im, (i67.trans G78.im).trans G89.im⟩
    · rintro σ' H' ⟨vy, ys, ry, rfl, hRy, hTy, ecy, hD9, hK9, G9, i49, i69⟩
      refine ⟨_, rfl, _, rfl, _, rfl, _, rfl, (by show 5 ≤ sizeLine; decide), fun p np => ?_⟩
      have ip : Imm H' (upd H' p (.tup [.str "if", v1, v2, vb, vy])) := Imm.same (same_new np)
      exact q _ (1 + cntB bs + cntB ys) ry _ ⟨.test e1 e2 bs ys, rp_tup upd_same (rpl_cons rfl (rpl_cons (hR1'.to (i49.trans ip)) (rpl_cons (hR2.to (i49.trans ip)) (rpl_cons (hRb.to (i69.trans ip)) (rpl_cons (hRy.to ip) rpl_nil))))), ⟨hE1, hE2, hbs, m, rfl, hTb, hTy⟩, rfl⟩ (by omega) (hD9.new np)
        ⟨same_new np _ _ hK9.1, same_new np _ _ hK9.2⟩ (G9.new np)
theorem ok_drawn_body (T : Tops K mg) (n : Nat) (Gl_drawn_thing : FnOk P w K mg base CX0 (5 + 2 * n) T.fl_drawn_thing T.dl_drawn_thing ["_law_draw", "_law_kit", "_law_scope", "_law_deep"] (spDrawThing n)) :
    FnOk P w K mg base CX0 (6 + 2 * n) T.fl_drawn_body T.dl_drawn_body ["_law_draw", "_law_kit", "_law_scope", "_law_deep"] (spDrawBody n) := by
  have Gl_take : FnOk P w K mg base CX0 1 T.fl_take T.dl_take ["_law_draw", "_law_sides"] spTake := ok_take T
  have elev : 6 + 2 * n = (5 + 2 * n) + 1 := by omega
  rw [elev]
  refine T.Fl_drawn_body.ok (k := 5 + 2 * n) scl_drawn_body (fun vs H Q E h => ?_) (fun cdv A outer s H vs Q E hr h => ?_)
  · obtain ⟨d, L, k, kd, sc, r, fig, wide, ns, rfl, _⟩ := h
    rfl
  obtain ⟨d, L, k, kd, sc, r, fig, wide, ns, rfl, hD, ⟨hk, hkd⟩, nkd, nkL, r1, r2, hsc, nsd, nsk, hSc, hne, hlen, q⟩ := h
  refine ⟨_, (pss_cons (ps_set (i := 4) scl_drawn_body.nd rfl (Or.inl rfl) (pe_lst (pa_cons (pe_call Gl_drawn_thing (hr.mono (by omega)) (by rfl) T.gl_drawn_thing T.Fl_drawn_thing.kp T.bl_drawn_thing .nil pass0 (pa_cons (pv 0) (pa_cons (pv 1) (pa_cons (pv 2) (pa_cons (pv 3) pa_nil))))) pa_nil)))
 (pss_cons (ps_for PassesOwn.never rfl (pi_range1 (by rfl) T.mrange (pa_cons (pe_call Gl_take (hr.mono (by omega)) (by rfl) T.gl_take T.Fl_take.kp T.bl_take .nil pass0 (pa_cons (pv 0) (pa_cons pe_int pa_nil))) pa_nil)) (pg_name (i := 5) scl_drawn_body.nd rfl (Or.inl rfl))
  (pss_one (ps_if (pt_cmpR op_gt (pe_ix ix_list (pv 1) pe_int (fun _ _ => rfl)) pe_int (nomark _))
  (pss_one (ps_expr (pe_bm PySem.F.plainAttrs_list PySem.F.slot_list_append PySem.F.type_list_append mt_append (pv 4) (pa_cons (pe_call Gl_drawn_thing (hr.mono (by omega)) (by rfl) T.gl_drawn_thing T.Fl_drawn_thing.kp T.bl_drawn_thing .nil pass0 (pa_cons (pv 0) (pa_cons (pv 1) (pa_cons (pv 2) (pa_cons (pv 3) pa_nil))))) pa_nil))))
  pss_nil)))
 (pss_one (ps_ret (pe_callTy call_tuple_of (by rfl) T.mtuple (by decide +kernel) (pa_cons (pv 4) pa_nil)))))), ?_⟩
  have nMsc : ¬ M2 d k sc := fun z => z.elim nsd nsk
  refine ⟨_, rfl, _, rfl, _, rfl, _, rfl, d, L, k, kd, sc, r, fig, wide, ns, rfl, hD, ⟨hk, hkd⟩, nkd, nkL, r1, r2, hsc, nsd, nsk, hSc, hne, hlen, fun v1 c1 ra H1 hp e1 hD1 hK1 G1 => ?_⟩
  obtain ⟨t1, hR1, hT1, hc1⟩ := hp
  refine ⟨(by show 1 ≤ sizeLine; decide), fun F nF => ?_⟩
  have nFH : H F = none := by
    cases hF : H F with
    | none => rfl
    | some o =>
      by_cases hm : M2 d k F
      · rcases hm with rfl | rfl
        · obtain ⟨u, hu⟩ := hD1.some
          rw [hu] at nF
          cases nF
        · rw [hK1.1] at nF
          cases nF
      · rw [G1.sx F o hm hF] at nF
        cases nF
  have nFd := hD1.neNew nF
  have nFk : F ≠ k := (ne_of_none hK1.1 nF).symm
  have hD2 := hD1.new (o := .lst [v1]) nF
  have G2 := G1.new (o := .lst [v1]) nF
  have s2 : Same H1 (upd H1 F (.lst [v1])) := same_new nF
  refine ⟨_, rfl, d, L, 3, rfl, hD2, by decide, by decide, fun g H3 a3 b3 hD3 hB3 => ?_⟩
  have G23 : Go (· = d) (upd H1 F (.lst [v1])) H3 := Go.but hD2 hB3 rfl
  have G3 := G2.trans (G23.mono fun b e => .inl e)
  refine ⟨g, rfl, by omega, by omega, ?_⟩
  have hF3 := G23.at (upd_same : (upd H1 F (.lst [v1])) F = _) nFd.1
  have hk3 := G23.at (s2 _ _ hK1.1) nkd
  have ndd : kd ≠ d := by
    obtain ⟨zs, i0, i1, i2, z1, _⟩ := hD
    exact ne_of hkd z1 (fun z => by cases z)
  have ndk : kd ≠ k := ne_of hkd hk (fun z => by cases z)
  have hkd3 := G23.at (s2 _ _ hK1.2) ndd
  have hR3 : Rp H3 v1 (enc t1) := (hR1.to (Imm.same s2)).to G23.im
  refine for_range (lo := 0) (n := g.toNat) (fun i σ H' => (∃ x5, σ = [some (.ref d), some (.ref k), some (.ref sc), some (.int (4 - (n : Int))), some (.ref F), x5]) ∧ ∃ (us : List V) (ts : List Thing) (r' : Nat), us.length ≤ i + 1 ∧ ts ≠ [] ∧ H' F = some (.lst us) ∧ RpL H' us (encs ts) ∧ TsOk C0 False ns n ts ∧ cntB ts + r' = r ∧
    Dr H' d L ∧ Kt H' k kd r' fig wide ∧ Go (M2 d k) H H') ⟨⟨_, rfl⟩, [v1], [t1], ra, Nat.le_refl _, by simp, hF3, rpl_cons hR3 rpl_nil, ⟨hT1, trivial⟩, by show cntT t1 + 0 + ra = r; omega, hD3, ⟨hk3, hkd3⟩, G3⟩ (fun i σ H4 hi hP => ?_) (fun σ H4 hP => ?_)
  · obtain ⟨⟨x5, rfl⟩, us, ts, r', hus, hts, hF4, hR4, hT4, ec, hD4, hK4, G4⟩ := hP
    refine ⟨_, rfl, k, _, 0, _, rfl, rfl, SqL.of hK4.1, rfl, _, 0, rfl, rfl, _, rfl, ite2 (fun c5 => ?_) (fun c5 => ?_)⟩
    · have hr1 : (0 : Int) < (r' : Int) := of_decide_eq_true c5
      refine ⟨_, rfl, .inl ⟨rfl, _, SqL.of hF4⟩, _, rfl, _, rfl, _, rfl, _, rfl, d, L, k, kd, sc, r', fig, wide, ns, rfl, hD4, hK4, nkd, nkL, by omega, by omega, G4.at hsc nMsc, nsd, nsk, hSc, hne, hlen, fun v c r'' H5 hp e5 hD5 hK5 G45 => ?_⟩
      obtain ⟨t, hR, hT, hc⟩ := hp
      have hF5 := G45.at hF4 (fun z => z.elim nFd.1 nFk)
      have nFL := nFd.2
      refine ⟨F, us, v, rfl, rfl, hF5, szl (by omega), ?_⟩
      have i45 : Imm H4 (upd H5 F (.lst (us ++ [v]))) := G45.im.upd fun xs e => by rw [hF4] at e; cases e
      have i5 : Imm H5 (upd H5 F (.lst (us ++ [v]))) := (Imm.refl H5).upd fun xs e => by rw [hF5] at e; cases e
      refine ⟨⟨_, rfl⟩, us ++ [v], ts ++ [t], r'', ?_, ?_, upd_same, ?_, ?_, ?_, hD5.upd nFd.1 nFL, ⟨?_, ?_⟩, (G4.trans G45).own nFH⟩
      · rw [List.length_append]
        show us.length + 1 ≤ i + 1 + 1
        omega
      · simp
      · rw [encs_append]
        exact (hR4.to i45).append (rpl_cons (hR.to i5) rpl_nil)
      · rw [tsok_iff] at hT4 ⊢
        intro u hu
        rcases List.mem_append.mp hu with h1 | h1
        · exact hT4 u h1
        · rw [List.mem_singleton.mp h1]
          exact hT
      · rw [cntB_append]
        show cntB ts + (cntT t + 0) + r'' = r
        omega
      · rw [upd_ne nFk.symm]
        exact hK5.1
      · have nFkd : kd ≠ F := ne_of hK5.2 hF5 (fun z => by cases z)
        rw [upd_ne nFkd]
        exact hK5.2
    · exact ⟨⟨_, rfl⟩, us, ts, r', by omega, hts, hF4, hR4, hT4, ec, hD4, hK4, G4⟩
  · obtain ⟨⟨x5, rfl⟩, us, ts, r', hus, hts, hF4, hR4, hT4, ec, hD4, hK4, G4⟩ := hP
    refine ⟨_, rfl, F, us, rfl, .inl ⟨SqL.of hF4, fun p np => ?_⟩⟩
    have ip : Imm H4 (upd H4 p (.tup us)) := Imm.same (same_new np)
    exact q _ (cntB ts) r' _ ⟨ts, hts, rp_tup upd_same (hR4.to ip), hT4, rfl⟩ ec (hD4.new np) ⟨same_new np _ _ hK4.1, same_new np _ _ hK4.2⟩ (G4.new np)
theorem fn_none {f : Addr} {fd : FuncData} {k : Nat} {ps : List Str} : FnOk P w K mg base CX0 k f fd ps (fun _ _ _ _ => False) :=
  ⟨fun _ _ _ _ h => h.elim, fun _ _ _ _ _ _ _ _ _ _ _ _ _ h => h.elim⟩
theorem ok_drawing (T : Tops K mg) : ∀ n : Nat, FnOk P w K mg base CX0 (6 + 2 * n) T.fl_drawn_body T.dl_drawn_body ["_law_draw", "_law_kit", "_law_scope", "_law_deep"] (spDrawBody n)
  | 0 => ok_drawn_body T 0 (ok_drawn_thing T 0 fn_none)
  | n + 1 => ok_drawn_body T (n + 1) (ok_drawn_thing T (n + 1) (by
      have := ok_drawing T n
      rw [show 4 + 2 * (n + 1) = 6 + 2 * n by omega]
      exact this))
theorem ok_drawn (T : Tops K mg) : FnOk P w K mg base CX0 15 T.fl_drawn T.dl_drawn ["_law_draw", "_law_room", "_law_figures", "_law_wide"] spDrawn := by
  have Gl_drawn_body : FnOk P w K mg base CX0 14 T.fl_drawn_body T.dl_drawn_body ["_law_draw", "_law_kit", "_law_scope", "_law_deep"] (spDrawBody 4) := ok_drawing T 4
  refine T.Fl_drawn.ok (k := 14) scl_drawn (fun vs H Q E h => ?_) (fun cdv A outer s H vs Q E hr h => ?_)
  · obtain ⟨d, L, r, fig, wide, rfl, _⟩ := h
    rfl
  obtain ⟨d, L, r, fig, wide, rfl, hD, r1, r2, q⟩ := h
  refine ⟨_, (pss_one (ps_ret (pe_call Gl_drawn_body (hr.mono (by omega)) (by rfl) T.gl_drawn_body T.Fl_drawn_body.kp T.bl_drawn_body .nil pass0 (pa_cons (pv 0) (pa_cons (pe_lst (pa_cons (pv 1) (pa_cons pe_dnewK (pa_cons (pv 2) (pa_cons (pv 3) pa_nil))))) (pa_cons (pe_lst (pa_cons pe_str pa_nil)) (pa_cons pe_int pa_nil))))))), ?_⟩
  refine ⟨_, rfl, _, rfl, fun kd nkd0 => ?_⟩
  refine ⟨_, rfl, _, rfl, (by show 4 ≤ sizeLine; decide), fun k nk => ?_⟩
  refine ⟨(by show 1 ≤ sizeLine; decide), fun sc nsc => ?_⟩
  have s1 : Same H (upd H kd (.dK [])) := same_new nkd0
  have s2 := s1.trans (same_new (o := .lst [.int r, .ref kd, .bl fig, .bl wide]) nk)
  have s3 := s2.trans (same_new (o := .lst [.str "n"]) nsc)
  have hD1 := hD.new (o := .dK []) nkd0
  have hD2 := hD1.new (o := .lst [.int r, .ref kd, .bl fig, .bl wide]) nk
  have hD3 := hD2.new (o := .lst [.str "n"]) nsc
  have k1 := hD1.neNew nk
  have c1 := hD2.neNew nsc
  have hk : (upd (upd (upd H kd (.dK [])) k (.lst [.int r, .ref kd, .bl fig, .bl wide])) sc (.lst [.str "n"])) k = some (.lst [.int r, .ref kd, .bl fig, .bl wide]) := same_new nsc _ _ upd_same
  have hkd : (upd (upd (upd H kd (.dK [])) k (.lst [.int r, .ref kd, .bl fig, .bl wide])) sc (.lst [.str "n"])) kd = some (.dK []) := same_new nsc _ _ (same_new nk _ _ upd_same)
  have csk : sc ≠ k := (ne_of_none upd_same nsc).symm
  refine ⟨d, L, k, kd, sc, r, fig, wide, ["n"], rfl, hD3, ⟨hk, hkd⟩, k1.1, k1.2, r1, r2, upd_same, c1.1, csk, fun x hx => .inl (List.mem_singleton.mp hx), by simp, by decide, fun v c r' H' hp e hD' hK' G' => ?_⟩
  obtain ⟨ts, hts, hR, hT, hc⟩ := hp
  have nkH : H k = none := s1.free nk
  refine q v ts H' hts hR hT (by omega) hD' ⟨fun b u nb hb => ?_, ?_⟩
  · have n1 : b ≠ k := ne_of_none hb nkH
    exact G'.sx b u (fun z => z.elim nb n1) (s3 b u hb)
  · exact (Imm.same s3).trans G'.im
end
end K07

set_option Elab.async false
set_option linter.all false
set_option maxRecDepth 100000
set_option maxHeartbeats 4000000
namespace K07
open PySem PySem.Spec PyProof.Rows L2 OG
open C8 (pss_cut pe_gc)
section
variable {P : Program} {w : World} {K : PySem.W.Frag} {mg : Str → Option Value} {base : Heap}
theorem plain_of {K : PySem.W.Frag} {v : V} (h : flatV v = true) (hn : v ≠ .non) : ∃ (t : String) (b1 b2 b3 : Bool), (∀ H', TyX K H' v (.type t)) ∧ kitB t "list" = some false ∧ kitB t "tuple" = some false ∧ kitB t "bool" = some b1 ∧ kitB t "int" = some b2 ∧ kitB t "str" = some b3 ∧ scal v v = true := by
  cases v with
  | non => exact absurd rfl hn
  | bl b => exact ⟨"bool", true, true, false, fun _ => .base (.bl b), by decide +kernel, by decide +kernel, by decide +kernel, by decide +kernel, by decide +kernel, rfl⟩
  | int i => exact ⟨"int", false, true, false, fun _ => .base (.int i), by decide +kernel, by decide +kernel, by decide +kernel, by decide +kernel, by decide +kernel, rfl⟩
  | str z => exact ⟨"str", false, false, true, fun _ => .base (.str z), by decide +kernel, by decide +kernel, by decide +kernel, by decide +kernel, by decide +kernel, rfl⟩
  | byt _ => cases h
  | flt _ => cases h
  | ref _ => cases h
  | ty _ => cases h
theorem ok_same1 (T : Tops K mg) (n : Nat) (Gl_same : FnOk P w K mg base CX0 n T.fl_same T.dl_same ["_law_found", "_law_due"] (prevS n)) : FnOk P w K mg base CX0 (n + 1) T.fl_same T.dl_same ["_law_found", "_law_due"] (spSame n) := by
  refine T.Fl_same.ok (k := n) scl_same (fun vs H Q E h => ?_) (fun cdv A outer s H vs Q E hr h => ?_)
  · obtain ⟨v, w, rfl, _⟩ := h
    rfl
  obtain ⟨v, w, rfl, hE, q⟩ := h
  refine ⟨_, (pss_cons (ps_if (pt_val (pe_callB call_isiT (by rfl) T.misinstance (by decide +kernel) (pa_cons (pv 1) (pa_cons (pe_tup (pa_cons (pe_bltn (v := .ty "list") (by rfl) T.mlist (by decide +kernel) rfl) (pa_cons (pe_bltn (v := .ty "tuple") (by rfl) T.mtuple (by decide +kernel) rfl) pa_nil))) pa_nil))))
  (pss_cons (ps_if (PW.pt (pw_or (pt_cmpR op_ne (pe_callB call_isi (by rfl) T.misinstance (by decide +kernel) (pa_cons (pv 0) (pa_cons (pe_bltn (v := .ty "list") (by rfl) T.mlist (by decide +kernel) rfl) pa_nil))) (pe_callB call_isi (by rfl) T.misinstance (by decide +kernel) (pa_cons (pv 1) (pa_cons (pe_bltn (v := .ty "list") (by rfl) T.mlist (by decide +kernel) rfl) pa_nil))) (nomark _)) (pw_or1 (pt_not (pt_val (pe_callB call_isiT (by rfl) T.misinstance (by decide +kernel) (pa_cons (pv 0) (pa_cons (pe_tup (pa_cons (pe_bltn (v := .ty "list") (by rfl) T.mlist (by decide +kernel) rfl) (pa_cons (pe_bltn (v := .ty "tuple") (by rfl) T.mtuple (by decide +kernel) rfl) pa_nil))) pa_nil))))))))
  (pss_one (ps_ret pe_bl))
  pss_nil)
 (pss_one (ps_ret (pe_and (pe_cmpR op_eq (pe_callB call_len (by rfl) T.mlen PySem.boot_len (pa_cons (pv 0) pa_nil)) (pe_callB call_len (by rfl) T.mlen PySem.boot_len (pa_cons (pv 1) pa_nil)) (nomark _)) (pe_one (pe_callB (cr_all rfl) (by rfl) T.mall (by decide +kernel) (pa_cons (pe_lc (own := [("_law_one", 2), ("_law_other", 3)]) rfl scl_same.nd (RZ.pi_zipA (by rfl) T.mzip (pa_cons (pv 0) (pa_cons (pv 1) pa_nil))) (blkOk_by (N := Nl_same) (sc := defScope sl_same) (by decide +kernel)) (fun _ _ _ _ _ => (pg_tupK (K := K) (n := 2) rfl rfl (pgs_cons (pg_name (i := 2) scl_same.nd rfl (Or.inl rfl)) (pgs_cons (pg_name (i := 3) scl_same.nd rfl (Or.inl rfl)) pgs_nil)))) (fun _ _ _ _ _ => pts_nil) (fun _ _ _ _ _ => (pe_call Gl_same (hr.mono (by omega)) (by rfl) T.gl_same T.Fl_same.kp T.bl_same .nil pass0 (pa_cons (pv 2) (pa_cons (pv 3) pa_nil))))) pa_nil)))))))
  pss_nil)
 (pss_cons (ps_if (pt_cmpR op_isN (pv 1) pe_non (nomark _))
  (pss_one (ps_ret (pe_cmpR op_isN (pv 0) pe_non (nomark _))))
  pss_nil)
 (pss_cons (ps_if (PW.pt (pw_or (pt_cmpR op_ne (pe_callB call_isi (by rfl) T.misinstance (by decide +kernel) (pa_cons (pv 0) (pa_cons (pe_bltn (v := .ty "bool") (by rfl) T.mbool (by decide +kernel) rfl) pa_nil))) (pe_callB call_isi (by rfl) T.misinstance (by decide +kernel) (pa_cons (pv 1) (pa_cons (pe_bltn (v := .ty "bool") (by rfl) T.mbool (by decide +kernel) rfl) pa_nil))) (nomark _)) (pw_or1 (pt_cmpR op_ne (pe_callB call_isi (by rfl) T.misinstance (by decide +kernel) (pa_cons (pv 0) (pa_cons (pe_bltn (v := .ty "int") (by rfl) T.mint (by decide +kernel) rfl) pa_nil))) (pe_callB call_isi (by rfl) T.misinstance (by decide +kernel) (pa_cons (pv 1) (pa_cons (pe_bltn (v := .ty "int") (by rfl) T.mint (by decide +kernel) rfl) pa_nil))) (nomark _)))))
  (pss_one (ps_ret pe_bl))
  pss_nil)
 (pss_one (ps_ret (pe_and (pe_cmpR op_eq (pe_callB call_isi (by rfl) T.misinstance (by decide +kernel) (pa_cons (pv 0) (pa_cons (pe_bltn (v := .ty "str") (by rfl) T.mstr (by decide +kernel) rfl) pa_nil))) (pe_callB call_isi (by rfl) T.misinstance (by decide +kernel) (pa_cons (pv 1) (pa_cons (pe_bltn (v := .ty "str") (by rfl) T.mstr (by decide +kernel) rfl) pa_nil))) (nomark _)) (pe_one (pe_cmpR op_eq (pv 0) (pv 1) (nomark _))))))))), ?_⟩
  have kI : ∀ (t c : String) (r : Bool), kitB t c = some r → PySem.W.kitOne K (.type t) (.type c) = some r := fun t c r h => kit_ty h
  have split : (v = w ∧ flatV v = true) ∨ ∃ (m : Nat) (a b : Addr) (vs ws : List V), n = m + 1 ∧ v = .ref a ∧ w = .ref b ∧ ((H a = some (.tup vs) ∧ H b = some (.tup ws)) ∨ (H a = some (.lst vs) ∧ H b = some (.lst ws))) ∧ vs.length = ws.length ∧ vs.length < 100000 ∧
      ∀ (i : Nat) x y, vs[i]? = some x → ws[i]? = some y → Eq2 H m x y := by
    cases n with
    | zero => exact .inl hE
    | succ m =>
      rcases hE with h | ⟨a, b, vs, ws, h⟩
      · exact .inl h
      · exact .inr ⟨m, a, b, vs, ws, rfl, h⟩
  rcases split with ⟨rfl, hf⟩ | ⟨m, a, b, vs, ws, rfl, rfl, rfl, hab, hl, hz, hi⟩
  · by_cases hn : v = .non
    · subst hn
      refine ⟨_, rfl, (by show 2 ≤ sizeLine; decide), fun p np => ?_⟩
      refine ⟨.non, p, [.ty "list", .ty "tuple"], .type "NoneType", [.type "list", .type "tuple"], false, rfl, upd_same, .cons (.ty _) (.cons (.ty _) .nil), .base .non,
        kitAny_cons (kI "NoneType" "list" false (by decide +kernel)) (fun _ => kitAny_cons (kI "NoneType" "tuple" false (by decide +kernel)) (fun _ => rfl) (fun z => nomatch z)) (fun z => nomatch z), false, rfl, iteF ?_⟩
      refine ⟨_, rfl, rfl, _, rfl, iteT ?_⟩
      exact ⟨_, rfl, rfl, q _ (same_new np)⟩
    · obtain ⟨t, b1, b2, b3, ty, k1, k2, k3, k4, k5, hs⟩ := plain_of (K := K) hf hn
      refine ⟨_, rfl, (by show 2 ≤ sizeLine; decide), fun p np => ?_⟩
      refine ⟨v, p, [.ty "list", .ty "tuple"], .type t, [.type "list", .type "tuple"], false, rfl, upd_same, .cons (.ty _) (.cons (.ty _) .nil), ty _,
        kitAny_cons (kI t "list" false k1) (fun _ => kitAny_cons (kI t "tuple" false k2) (fun _ => rfl) (fun z => nomatch z)) (fun z => nomatch z), false, rfl, iteF ?_⟩
      have dn : ¬ decide (v = V.non) = true := fun z => hn (of_decide_eq_true z)
      have same2 : ∀ b : Bool, ¬ (!decide (V.bl b = V.bl b)) = true := fun b => by rw [decide_eq_true rfl]; exact Bool.false_ne_true
      refine ⟨_, rfl, rfl, _, rfl, ite2 (fun z => absurd z dn) (fun _ => ?_)⟩
      refine ⟨_, rfl, v, .ty "bool", .type t, _, b1, rfl, .ty _, ty _, kI t "bool" b1 k3, _, rfl, v, .ty "bool", .type t, _, b1, rfl, .ty _, ty _, kI t "bool" b1 k3, rfl, _, rfl, ite2 (fun z => absurd z (same2 b1)) (fun _ => ?_)⟩
      refine ⟨_, rfl, v, .ty "int", .type t, _, b2, rfl, .ty _, ty _, kI t "int" b2 k4, _, rfl, v, .ty "int", .type t, _, b2, rfl, .ty _, ty _, kI t "int" b2 k4, rfl, _, rfl, ite2 (fun z => absurd z (same2 b2)) (fun _ => ?_)⟩
      refine ⟨_, rfl, v, .ty "str", .type t, _, b3, rfl, .ty _, ty _, kI t "str" b3 k5, _, rfl, v, .ty "str", .type t, _, b3, rfl, .ty _, ty _, kI t "str" b3 k5, rfl, _, rfl, ite2 (fun _ => ?_) (fun z => absurd (decide_eq_true rfl) z)⟩
      refine ⟨_, rfl, _, rfl, hs, ?_⟩
      rw [decide_eq_true rfl]
      exact q _ (same_new np)
  · rcases hab with ⟨ha, hb⟩ | ⟨ha, hb⟩
    · -- two tuples
      refine ⟨_, rfl, (by show 2 ≤ sizeLine; decide), fun p np => ?_⟩
      have s1 : Same H (upd H p (.tup [.ty "list", .ty "tuple"])) := same_new np
      have ka : PySem.W.kitAny K (.type "tuple") [.type "list", .type "tuple"] = some true := kitAny_cons (kI "tuple" "list" false (by decide +kernel)) (fun _ => kitAny_cons (kI "tuple" "tuple" true (by decide +kernel)) (fun z => nomatch z) (fun _ => rfl)) (fun _ => rfl)
      refine ⟨.ref b, p, [.ty "list", .ty "tuple"], .type "tuple", [.type "list", .type "tuple"], true, rfl, upd_same, .cons (.ty _) (.cons (.ty _) .nil), .base (.tup (s1 _ _ hb)), ka, true, rfl, iteT ?_⟩
      refine ⟨_, rfl, .ref a, .ty "list", .type "tuple", _, false, rfl, .ty _, .base (.tup (s1 _ _ ha)), kI "tuple" "list" false (by decide +kernel), _, rfl, .ref b, .ty "list", .type "tuple", _, false, rfl, .ty _, .base (.tup (s1 _ _ hb)), kI "tuple" "list" false (by decide +kernel), rfl, _, rfl, iteF ?_⟩
      refine ⟨_, rfl, (by show 2 ≤ sizeLine; decide), fun p2 np2 => ?_⟩
      have s2 := s1.trans (same_new (o := .tup [.ty "list", .ty "tuple"]) np2)
      refine ⟨.ref a, p2, [.ty "list", .ty "tuple"], .type "tuple", [.type "list", .type "tuple"], true, rfl, upd_same, .cons (.ty _) (.cons (.ty _) .nil), .base (.tup (s2 _ _ ha)), ka, true, rfl, iteF ?_⟩
      refine ⟨_, rfl, .ref a, vs.length, rfl, .inr ⟨_, SqT.of (s2 _ _ ha), rfl⟩, _, rfl, .ref b, ws.length, rfl, .inr ⟨_, SqT.of (s2 _ _ hb), rfl⟩, rfl, _, rfl, ite2 (fun _ => ?_) (fun z => absurd (decide_eq_true (by rw [hl])) z)⟩
      refine ⟨_, rfl, _, rfl, a, b, vs, ws, rfl, .inr ⟨SqT.of (s2 _ _ ha), SqT.of (s2 _ _ hb), fun Dn nD => ?_⟩⟩
      have nDH : H Dn = none := s2.free nD
      refine lc_it (walk_zipT (K := K) (xs := vs) (ys := ws) (n := vs.length) (by omega)) (fun i H' => Same H H' ∧ H' Dn = some (.lst ((List.replicate i true).map V.bl))) ⟨s2.trans (same_new nD), upd_same⟩ (fun i H' _ hP => ⟨SqT.of (hP.1 _ _ ha), SqT.of (hP.1 _ _ hb)⟩) (fun i x H' H'' hlt hP hY => ?_) (fun H' hP => ?_)
      · obtain ⟨sm, hD⟩ := hP
        obtain ⟨Tn, x1, x2, rfl, nT, rfl, g1, g2⟩ := hY
        have sT : Same H' (upd H' Tn (.tup [x1, x2])) := same_new nT
        refine ⟨Tn, [x1, x2], rfl, SqT.of upd_same, rfl, x1, [x2], rfl, x2, [], rfl, rfl, rfl, yes_go ?_⟩
        refine ⟨_, rfl, _, rfl, x1, x2, rfl, Eq2.same (sm.trans sT) (hi i x1 x2 g1 g2), fun H3 s3 => ?_⟩
        refine ⟨_, s3 _ _ (sT _ _ hD), ?_, Same.upd_new ((sm.trans sT).trans s3) nDH, ?_⟩
        · rw [List.length_map, List.length_replicate]
          exact szl (by omega)
        · rw [upd_same, List.replicate_succ', List.map_append]
          rfl
      · obtain ⟨sm, hD⟩ := hP
        refine ⟨Dn, List.replicate vs.length true, rfl, SqL.of hD, ?_⟩
        rw [all_trues]
        exact q _ sm
    · -- two lists
      refine ⟨_, rfl, (by show 2 ≤ sizeLine; decide), fun p np => ?_⟩
      have s1 : Same H (upd H p (.tup [.ty "list", .ty "tuple"])) := same_new np
      have ka : PySem.W.kitAny K (.type "list") [.type "list", .type "tuple"] = some true := kitAny_cons (kI "list" "list" true (by decide +kernel)) (fun z => nomatch z) (fun _ => rfl)
      refine ⟨.ref b, p, [.ty "list", .ty "tuple"], .type "list", [.type "list", .type "tuple"], true, rfl, upd_same, .cons (.ty _) (.cons (.ty _) .nil), .base (.lst (s1 _ _ hb)), ka, true, rfl, iteT ?_⟩
      refine ⟨_, rfl, .ref a, .ty "list", .type "list", _, true, rfl, .ty _, .base (.lst (s1 _ _ ha)), kI "list" "list" true (by decide +kernel), _, rfl, .ref b, .ty "list", .type "list", _, true, rfl, .ty _, .base (.lst (s1 _ _ hb)), kI "list" "list" true (by decide +kernel), rfl, _, rfl, iteF ?_⟩
      refine ⟨_, rfl, (by show 2 ≤ sizeLine; decide), fun p2 np2 => ?_⟩
      have s2 := s1.trans (same_new (o := .tup [.ty "list", .ty "tuple"]) np2)
      refine ⟨.ref a, p2, [.ty "list", .ty "tuple"], .type "list", [.type "list", .type "tuple"], true, rfl, upd_same, .cons (.ty _) (.cons (.ty _) .nil), .base (.lst (s2 _ _ ha)), ka, true, rfl, iteF ?_⟩
      refine ⟨_, rfl, .ref a, vs.length, rfl, .inl ⟨_, SqL.of (s2 _ _ ha), rfl⟩, _, rfl, .ref b, ws.length, rfl, .inl ⟨_, SqL.of (s2 _ _ hb), rfl⟩, rfl, _, rfl, ite2 (fun _ => ?_) (fun z => absurd (decide_eq_true (by rw [hl])) z)⟩
      refine ⟨_, rfl, _, rfl, a, b, vs, ws, rfl, .inl ⟨SqL.of (s2 _ _ ha), SqL.of (s2 _ _ hb), fun Dn nD => ?_⟩⟩
      have nDH : H Dn = none := s2.free nD
      refine lc_it (walk_zip (K := K) (xs := vs) (ys := ws) (n := vs.length) (by omega)) (fun i H' => Same H H' ∧ H' Dn = some (.lst ((List.replicate i true).map V.bl))) ⟨s2.trans (same_new nD), upd_same⟩ (fun i H' _ hP => ⟨SqL.of (hP.1 _ _ ha), SqL.of (hP.1 _ _ hb)⟩) (fun i x H' H'' hlt hP hY => ?_) (fun H' hP => ?_)
      · obtain ⟨sm, hD⟩ := hP
        obtain ⟨Tn, x1, x2, rfl, nT, rfl, g1, g2⟩ := hY
        have sT : Same H' (upd H' Tn (.tup [x1, x2])) := same_new nT
        refine ⟨Tn, [x1, x2], rfl, SqT.of upd_same, rfl, x1, [x2], rfl, x2, [], rfl, rfl, rfl, yes_go ?_⟩
        refine ⟨_, rfl, _, rfl, x1, x2, rfl, Eq2.same (sm.trans sT) (hi i x1 x2 g1 g2), fun H3 s3 => ?_⟩
        refine ⟨_, s3 _ _ (sT _ _ hD), ?_, Same.upd_new ((sm.trans sT).trans s3) nDH, ?_⟩
        · rw [List.length_map, List.length_replicate]
          exact szl (by omega)
        · rw [upd_same, List.replicate_succ', List.map_append]
          rfl
      · obtain ⟨sm, hD⟩ := hP
        refine ⟨Dn, List.replicate vs.length true, rfl, SqL.of hD, ?_⟩
        rw [all_trues]
        exact q _ sm
theorem ok_same (T : Tops K mg) : ∀ n : Nat, FnOk P w K mg base CX0 (n + 1) T.fl_same T.dl_same ["_law_found", "_law_due"] (spSame n)
  | 0 => ok_same1 T 0 fn_none
  | n + 1 => ok_same1 T (n + 1) (ok_same T n)
end
end K07

set_option Elab.async false
set_option linter.all false
set_option maxRecDepth 100000
set_option maxHeartbeats 4000000
namespace K07
open PySem PySem.Spec PyProof.Rows L2 OG
open C8 (pss_cut pe_gc)
section
variable {P : Program} {w : World} {K : PySem.W.Frag} {mg : Str → Option Value} {base : Heap}
theorem ok_bodies_of (T : Tops K mg) : FnOk P w K mg base CX0 1 T.fbodies_of T.dbodies_of ["thing"] spBodies := by
  refine T.Fbodies_of.ok (k := 0) scbodies_of (fun vs H Q E h => ?_) (fun cdv A outer s H vs Q E hr h => ?_)
  · obtain ⟨v, t, rfl, _⟩ := h
    rfl
  obtain ⟨v, t, rfl, hR, q⟩ := h
  refine ⟨_, (pss_cons (ps_if (pt_cmpR op_eq (pe_ix ix_tup (pv 0) pe_int (fun _ _ => rfl)) pe_str (nomark _))
  (pss_one (ps_ret (pe_lst (pa_cons (pe_ix ix_tup (pv 0) pe_int (fun _ _ => rfl)) pa_nil))))
  pss_nil)
 (pss_cons (ps_if (pt_cmpR op_eq (pe_ix ix_tup (pv 0) pe_int (fun _ _ => rfl)) pe_str (nomark _))
  (pss_one (ps_ret (pe_lst (pa_cons (pe_ix ix_tup (pv 0) pe_int (fun _ _ => rfl)) (pa_cons (pe_ix ix_tup (pv 0) pe_int (fun _ _ => rfl)) pa_nil)))))
  pss_nil)
 (pss_cons (ps_if (pt_cmpR op_eq (pe_ix ix_tup (pv 0) pe_int (fun _ _ => rfl)) pe_str (nomark _))
  (pss_one (ps_ret (pe_lst (pa_cons (pe_ix ix_tup (pv 0) pe_int (fun _ _ => rfl)) pa_nil))))
  pss_nil)
 (pss_one (ps_ret (pe_lst pa_nil)))))), ?_⟩
  cases t with
  | step k =>
    obtain ⟨a, v1, v2, rfl, ha, rfl, h2⟩ := rp_t2 hR
    refine ⟨_, rfl, a, _, 0, _, rfl, rfl, SqT.of ha, rfl, rfl, _, rfl, ite2 (fun z => absurd z (by decide +kernel)) (fun _ => ?_)⟩
    refine ⟨_, rfl, a, _, 0, _, rfl, rfl, SqT.of ha, rfl, rfl, _, rfl, ite2 (fun z => absurd z (by decide +kernel)) (fun _ => ?_)⟩
    refine ⟨_, rfl, a, _, 0, _, rfl, rfl, SqT.of ha, rfl, rfl, _, rfl, ite2 (fun z => absurd z (by decide +kernel)) (fun _ => ?_)⟩
    refine ⟨(by show 0 ≤ sizeLine; decide), fun p np => ?_⟩
    exact q p _ _ (same_new np) np upd_same rpl_nil
  | loop x e1 e2 b =>
    obtain ⟨a, v1, v2, v3, v4, v5, rfl, ha, rfl, h2, h3, h4, h5⟩ := rp_t5 hR
    refine ⟨_, rfl, a, _, 0, _, rfl, rfl, SqT.of ha, rfl, rfl, _, rfl, ite2 (fun _ => ?_) (fun z => absurd (by decide +kernel) z)⟩
    refine ⟨_, rfl, a, _, 4, _, rfl, rfl, SqT.of ha, rfl, (by show 1 ≤ sizeLine; decide), fun p np => ?_⟩
    exact q p _ _ (same_new np) np upd_same (rpl_cons (h5.to (Imm.same (same_new np))) rpl_nil)
  | test e1 e2 x y =>
    obtain ⟨a, v1, v2, v3, v4, v5, rfl, ha, rfl, h2, h3, h4, h5⟩ := rp_t5 hR
    refine ⟨_, rfl, a, _, 0, _, rfl, rfl, SqT.of ha, rfl, rfl, _, rfl, ite2 (fun z => absurd z (by decide +kernel)) (fun _ => ?_)⟩
    refine ⟨_, rfl, a, _, 0, _, rfl, rfl, SqT.of ha, rfl, rfl, _, rfl, ite2 (fun _ => ?_) (fun z => absurd (by decide +kernel) z)⟩
    refine ⟨_, rfl, a, _, 3, _, rfl, rfl, SqT.of ha, rfl, _, rfl, a, _, 4, _, rfl, rfl, SqT.of ha, rfl, (by show 2 ≤ sizeLine; decide), fun p np => ?_⟩
    exact q p _ _ (same_new np) np upd_same (rpl_cons (h4.to (Imm.same (same_new np))) (rpl_cons (h5.to (Imm.same (same_new np))) rpl_nil))
  | twice b =>
    obtain ⟨a, v1, v2, rfl, ha, rfl, h2⟩ := rp_t2 hR
    refine ⟨_, rfl, a, _, 0, _, rfl, rfl, SqT.of ha, rfl, rfl, _, rfl, ite2 (fun z => absurd z (by decide +kernel)) (fun _ => ?_)⟩
    refine ⟨_, rfl, a, _, 0, _, rfl, rfl, SqT.of ha, rfl, rfl, _, rfl, ite2 (fun z => absurd z (by decide +kernel)) (fun _ => ?_)⟩
    refine ⟨_, rfl, a, _, 0, _, rfl, rfl, SqT.of ha, rfl, rfl, _, rfl, ite2 (fun _ => ?_) (fun z => absurd (by decide +kernel) z)⟩
    refine ⟨_, rfl, a, _, 1, _, rfl, rfl, SqT.of ha, rfl, (by show 1 ≤ sizeLine; decide), fun p np => ?_⟩
    exact q p _ _ (same_new np) np upd_same (rpl_cons (h2.to (Imm.same (same_new np))) rpl_nil)
  | call x e =>
    obtain ⟨a, v1, v2, v3, rfl, ha, rfl, h2, h3⟩ := rp_t3 hR
    refine ⟨_, rfl, a, _, 0, _, rfl, rfl, SqT.of ha, rfl, rfl, _, rfl, ite2 (fun z => absurd z (by decide +kernel)) (fun _ => ?_)⟩
    refine ⟨_, rfl, a, _, 0, _, rfl, rfl, SqT.of ha, rfl, rfl, _, rfl, ite2 (fun z => absurd z (by decide +kernel)) (fun _ => ?_)⟩
    refine ⟨_, rfl, a, _, 0, _, rfl, rfl, SqT.of ha, rfl, rfl, _, rfl, ite2 (fun z => absurd z (by decide +kernel)) (fun _ => ?_)⟩
    refine ⟨(by show 0 ≤ sizeLine; decide), fun p np => ?_⟩
    exact q p _ _ (same_new np) np upd_same rpl_nil
  | again k w =>
    obtain ⟨a, v1, v2, v3, rfl, ha, rfl, h2, h3⟩ := rp_t3 hR
    refine ⟨_, rfl, a, _, 0, _, rfl, rfl, SqT.of ha, rfl, rfl, _, rfl, ite2 (fun z => absurd z (by decide +kernel)) (fun _ => ?_)⟩
    refine ⟨_, rfl, a, _, 0, _, rfl, rfl, SqT.of ha, rfl, rfl, _, rfl, ite2 (fun z => absurd z (by decide +kernel)) (fun _ => ?_)⟩
    refine ⟨_, rfl, a, _, 0, _, rfl, rfl, SqT.of ha, rfl, rfl, _, rfl, ite2 (fun z => absurd z (by decide +kernel)) (fun _ => ?_)⟩
    refine ⟨(by show 0 ≤ sizeLine; decide), fun p np => ?_⟩
    exact q p _ _ (same_new np) np upd_same rpl_nil
theorem ok_l_bodies (T : Tops K mg) : FnOk P w K mg base CX0 1 T.fl_bodies T.dl_bodies ["_law_thing"] spBodies := by
  refine T.Fl_bodies.ok (k := 0) scl_bodies (fun vs H Q E h => ?_) (fun cdv A outer s H vs Q E hr h => ?_)
  · obtain ⟨v, t, rfl, _⟩ := h
    rfl
  obtain ⟨v, t, rfl, hR, q⟩ := h
  refine ⟨_, (pss_cons (ps_if (pt_cmpR op_eq (pe_ix ix_tup (pv 0) pe_int (fun _ _ => rfl)) pe_str (nomark _))
  (pss_one (ps_ret (pe_lst (pa_cons (pe_ix ix_tup (pv 0) pe_int (fun _ _ => rfl)) (pa_cons (pe_ix ix_tup (pv 0) pe_int (fun _ _ => rfl)) pa_nil)))))
  pss_nil)
 (pss_one (ps_ret (pe_dget2 (hu_of hr) (pe_disp (pps_cons pe_str (pe_lst (pa_cons (pe_ix ix_tup (pv 0) (pe_un un_neg pe_int) (fun _ _ => rfl)) pa_nil)) (pps_cons pe_str (pe_lst (pa_cons (pe_ix ix_tup (pv 0) (pe_un un_neg pe_int) (fun _ _ => rfl)) pa_nil)) pps_nil)) (by rfl) (by rfl) (fun z => by cases z) (by decide)) (pe_ix ix_tup (pv 0) pe_int (fun _ _ => rfl)) (pe_lst pa_nil) ⟨by rfl, by rfl, by rfl, by rfl⟩)))), ?_⟩
  cases t with
  | step k =>
    obtain ⟨a, v1, v2, rfl, ha, rfl, h2⟩ := rp_t2 hR
    refine ⟨_, rfl, a, _, 0, _, rfl, rfl, SqT.of ha, rfl, rfl, _, rfl, ite2 (fun z => absurd z (by decide +kernel)) (fun _ => ?_)⟩
    refine fun p np => ?_
    have sp : Same H (upd H p (.dK [])) := same_new np
    refine ⟨_, rfl, 1, rfl, a, _, -1, _, rfl, rfl, SqT.of (sp _ _ ha), rfl, (by show 1 ≤ sizeLine; decide), fun l1 n1 => ?_⟩
    have s1 := sp.trans (same_new (o := .lst [v2]) n1)
    refine ⟨_, rfl, 1, rfl, a, _, -1, _, rfl, rfl, SqT.of (s1 _ _ ha), rfl, (by show 1 ≤ sizeLine; decide), fun l2 n2 => ?_⟩
    have s2 := s1.trans (same_new (o := .lst [v2]) n2)
    have hp : (upd (upd (upd H p (.dK [])) l1 (.lst [v2])) l2 (.lst [v2])) p = some (.dK []) := same_new n2 _ _ (same_new n1 _ _ upd_same)
    refine ⟨hp, [(Sum.inr "for", .ref l1), (Sum.inr "double", .ref l2)], rfl, (by show 2 ≤ 15; decide), ?_⟩
    have nl1 : l1 ≠ p := (ne_of_none upd_same n1).symm
    have nl2 : l2 ≠ p := (ne_of_none (same_new n1 _ _ upd_same) n2).symm
    have hG : (upd (upd (upd (upd H p (.dK [])) l1 (.lst [v2])) l2 (.lst [v2])) p (.dK (mergeK [] [(Sum.inr "for", .ref l1), (Sum.inr "double", .ref l2)]))) p = some (.dK [(Sum.inr "for", .ref l1), (Sum.inr "double", .ref l2)]) := by
      rw [upd_same]
      rfl
    have s3 : Same H (upd (upd (upd (upd H p (.dK [])) l1 (.lst [v2])) l2 (.lst [v2])) p (.dK (mergeK [] [(Sum.inr "for", .ref l1), (Sum.inr "double", .ref l2)]))) := Same.upd_new s2 np
    refine ⟨p, rfl, .inl ⟨_, .inl hG⟩, _, rfl, a, _, 0, _, rfl, rfl, SqT.of (s3 _ _ ha), rfl, Nat.zero_le _, fun e ne => ?_⟩
    refine ⟨_, DGet.k (k := Sum.inr "step") (same_new ne _ _ hG), ?_⟩
    have q2 := q e [] _ (s3.trans (same_new (o := .lst []) ne)) (s3.free ne) upd_same rpl_nil
    exact q2
  | loop x e1 e2 b =>
    obtain ⟨a, v1, v2, v3, v4, v5, rfl, ha, rfl, h2, h3, h4, h5⟩ := rp_t5 hR
    refine ⟨_, rfl, a, _, 0, _, rfl, rfl, SqT.of ha, rfl, rfl, _, rfl, ite2 (fun z => absurd z (by decide +kernel)) (fun _ => ?_)⟩
    refine fun p np => ?_
    have sp : Same H (upd H p (.dK [])) := same_new np
    refine ⟨_, rfl, 1, rfl, a, _, -1, _, rfl, rfl, SqT.of (sp _ _ ha), rfl, (by show 1 ≤ sizeLine; decide), fun l1 n1 => ?_⟩
    have s1 := sp.trans (same_new (o := .lst [v5]) n1)
    refine ⟨_, rfl, 1, rfl, a, _, -1, _, rfl, rfl, SqT.of (s1 _ _ ha), rfl, (by show 1 ≤ sizeLine; decide), fun l2 n2 => ?_⟩
    have s2 := s1.trans (same_new (o := .lst [v5]) n2)
    have hp : (upd (upd (upd H p (.dK [])) l1 (.lst [v5])) l2 (.lst [v5])) p = some (.dK []) := same_new n2 _ _ (same_new n1 _ _ upd_same)
    refine ⟨hp, [(Sum.inr "for", .ref l1), (Sum.inr "double", .ref l2)], rfl, (by show 2 ≤ 15; decide), ?_⟩
    have nl1 : l1 ≠ p := (ne_of_none upd_same n1).symm
    have nl2 : l2 ≠ p := (ne_of_none (same_new n1 _ _ upd_same) n2).symm
    have hG : (upd (upd (upd (upd H p (.dK [])) l1 (.lst [v5])) l2 (.lst [v5])) p (.dK (mergeK [] [(Sum.inr "for", .ref l1), (Sum.inr "double", .ref l2)]))) p = some (.dK [(Sum.inr "for", .ref l1), (Sum.inr "double", .ref l2)]) := by
      rw [upd_same]
      rfl
    have s3 : Same H (upd (upd (upd (upd H p (.dK [])) l1 (.lst [v5])) l2 (.lst [v5])) p (.dK (mergeK [] [(Sum.inr "for", .ref l1), (Sum.inr "double", .ref l2)]))) := Same.upd_new s2 np
    refine ⟨p, rfl, .inl ⟨_, .inl hG⟩, _, rfl, a, _, 0, _, rfl, rfl, SqT.of (s3 _ _ ha), rfl, Nat.zero_le _, fun e ne => ?_⟩
    refine ⟨_, DGet.k (k := Sum.inr "for") (same_new ne _ _ hG), ?_⟩
    have q2 := q l1 [v5] _ (s3.trans (same_new (o := .lst []) ne)) (sp.free n1) (same_new ne _ _ (by rw [upd_ne nl1]; exact same_new n2 _ _ upd_same)) (rpl_cons (h5.to ((Imm.same s3).trans (Imm.same (same_new ne)))) rpl_nil)
    exact q2
  | test e1 e2 x y =>
    obtain ⟨a, v1, v2, v3, v4, v5, rfl, ha, rfl, h2, h3, h4, h5⟩ := rp_t5 hR
    refine ⟨_, rfl, a, _, 0, _, rfl, rfl, SqT.of ha, rfl, rfl, _, rfl, ite2 (fun _ => ?_) (fun z => absurd (by decide +kernel) z)⟩
    refine ⟨_, rfl, a, _, 3, _, rfl, rfl, SqT.of ha, rfl, _, rfl, a, _, 4, _, rfl, rfl, SqT.of ha, rfl, (by show 2 ≤ sizeLine; decide), fun p np => ?_⟩
    exact q p _ _ (same_new np) np upd_same (rpl_cons (h4.to (Imm.same (same_new np))) (rpl_cons (h5.to (Imm.same (same_new np))) rpl_nil))
  | twice b =>
    obtain ⟨a, v1, v2, rfl, ha, rfl, h2⟩ := rp_t2 hR
    refine ⟨_, rfl, a, _, 0, _, rfl, rfl, SqT.of ha, rfl, rfl, _, rfl, ite2 (fun z => absurd z (by decide +kernel)) (fun _ => ?_)⟩
    refine fun p np => ?_
    have sp : Same H (upd H p (.dK [])) := same_new np
    refine ⟨_, rfl, 1, rfl, a, _, -1, _, rfl, rfl, SqT.of (sp _ _ ha), rfl, (by show 1 ≤ sizeLine; decide), fun l1 n1 => ?_⟩
    have s1 := sp.trans (same_new (o := .lst [v2]) n1)
    refine ⟨_, rfl, 1, rfl, a, _, -1, _, rfl, rfl, SqT.of (s1 _ _ ha), rfl, (by show 1 ≤ sizeLine; decide), fun l2 n2 => ?_⟩
    have s2 := s1.trans (same_new (o := .lst [v2]) n2)
    have hp : (upd (upd (upd H p (.dK [])) l1 (.lst [v2])) l2 (.lst [v2])) p = some (.dK []) := same_new n2 _ _ (same_new n1 _ _ upd_same)
    refine ⟨hp, [(Sum.inr "for", .ref l1), (Sum.inr "double", .ref l2)], rfl, (by show 2 ≤ 15; decide), ?_⟩
    have nl1 : l1 ≠ p := (ne_of_none upd_same n1).symm
    have nl2 : l2 ≠ p := (ne_of_none (same_new n1 _ _ upd_same) n2).symm
    have hG : (upd (upd (upd (upd H p (.dK [])) l1 (.lst [v2])) l2 (.lst [v2])) p (.dK (mergeK [] [(Sum.inr "for", .ref l1), (Sum.inr "double", .ref l2)]))) p = some (.dK [(Sum.inr "for", .ref l1), (Sum.inr "double", .ref l2)]) := by
      rw [upd_same]
      rfl
    have s3 : Same H (upd (upd (upd (upd H p (.dK [])) l1 (.lst [v2])) l2 (.lst [v2])) p (.dK (mergeK [] [(Sum.inr "for", .ref l1), (Sum.inr "double", .ref l2)]))) := Same.upd_new s2 np
    refine ⟨p, rfl, .inl ⟨_, .inl hG⟩, _, rfl, a, _, 0, _, rfl, rfl, SqT.of (s3 _ _ ha), rfl, Nat.zero_le _, fun e ne => ?_⟩
    refine ⟨_, DGet.k (k := Sum.inr "double") (same_new ne _ _ hG), ?_⟩
    have q2 := q l2 [v2] _ (s3.trans (same_new (o := .lst []) ne)) (s1.free n2) (same_new ne _ _ (by rw [upd_ne nl2]; exact upd_same)) (rpl_cons (h2.to ((Imm.same s3).trans (Imm.same (same_new ne)))) rpl_nil)
    exact q2
  | call x e =>
    obtain ⟨a, v1, v2, v3, rfl, ha, rfl, h2, h3⟩ := rp_t3 hR
    refine ⟨_, rfl, a, _, 0, _, rfl, rfl, SqT.of ha, rfl, rfl, _, rfl, ite2 (fun z => absurd z (by decide +kernel)) (fun _ => ?_)⟩
    refine fun p np => ?_
    have sp : Same H (upd H p (.dK [])) := same_new np
    refine ⟨_, rfl, 1, rfl, a, _, -1, _, rfl, rfl, SqT.of (sp _ _ ha), rfl, (by show 1 ≤ sizeLine; decide), fun l1 n1 => ?_⟩
    have s1 := sp.trans (same_new (o := .lst [v3]) n1)
    refine ⟨_, rfl, 1, rfl, a, _, -1, _, rfl, rfl, SqT.of (s1 _ _ ha), rfl, (by show 1 ≤ sizeLine; decide), fun l2 n2 => ?_⟩
    have s2 := s1.trans (same_new (o := .lst [v3]) n2)
    have hp : (upd (upd (upd H p (.dK [])) l1 (.lst [v3])) l2 (.lst [v3])) p = some (.dK []) := same_new n2 _ _ (same_new n1 _ _ upd_same)
    refine ⟨hp, [(Sum.inr "for", .ref l1), (Sum.inr "double", .ref l2)], rfl, (by show 2 ≤ 15; decide), ?_⟩
    have nl1 : l1 ≠ p := (ne_of_none upd_same n1).symm
    have nl2 : l2 ≠ p := (ne_of_none (same_new n1 _ _ upd_same) n2).symm
    have hG : (upd (upd (upd (upd H p (.dK [])) l1 (.lst [v3])) l2 (.lst [v3])) p (.dK (mergeK [] [(Sum.inr "for", .ref l1), (Sum.inr "double", .ref l2)]))) p = some (.dK [(Sum.inr "for", .ref l1), (Sum.inr "double", .ref l2)]) := by
      rw [upd_same]
      rfl
    have s3 : Same H (upd (upd (upd (upd H p (.dK [])) l1 (.lst [v3])) l2 (.lst [v3])) p (.dK (mergeK [] [(Sum.inr "for", .ref l1), (Sum.inr "double", .ref l2)]))) := Same.upd_new s2 np
    refine ⟨p, rfl, .inl ⟨_, .inl hG⟩, _, rfl, a, _, 0, _, rfl, rfl, SqT.of (s3 _ _ ha), rfl, Nat.zero_le _, fun e ne => ?_⟩
    refine ⟨_, DGet.k (k := Sum.inr "call") (same_new ne _ _ hG), ?_⟩
    have q2 := q e [] _ (s3.trans (same_new (o := .lst []) ne)) (s3.free ne) upd_same rpl_nil
    exact q2
  | again k w =>
    obtain ⟨a, v1, v2, v3, rfl, ha, rfl, h2, h3⟩ := rp_t3 hR
    refine ⟨_, rfl, a, _, 0, _, rfl, rfl, SqT.of ha, rfl, rfl, _, rfl, ite2 (fun z => absurd z (by decide +kernel)) (fun _ => ?_)⟩
    refine fun p np => ?_
    have sp : Same H (upd H p (.dK [])) := same_new np
    refine ⟨_, rfl, 1, rfl, a, _, -1, _, rfl, rfl, SqT.of (sp _ _ ha), rfl, (by show 1 ≤ sizeLine; decide), fun l1 n1 => ?_⟩
    have s1 := sp.trans (same_new (o := .lst [v3]) n1)
    refine ⟨_, rfl, 1, rfl, a, _, -1, _, rfl, rfl, SqT.of (s1 _ _ ha), rfl, (by show 1 ≤ sizeLine; decide), fun l2 n2 => ?_⟩
    have s2 := s1.trans (same_new (o := .lst [v3]) n2)
    have hp : (upd (upd (upd H p (.dK [])) l1 (.lst [v3])) l2 (.lst [v3])) p = some (.dK []) := same_new n2 _ _ (same_new n1 _ _ upd_same)
    refine ⟨hp, [(Sum.inr "for", .ref l1), (Sum.inr "double", .ref l2)], rfl, (by show 2 ≤ 15; decide), ?_⟩
    have nl1 : l1 ≠ p := (ne_of_none upd_same n1).symm
    have nl2 : l2 ≠ p := (ne_of_none (same_new n1 _ _ upd_same) n2).symm
    have hG : (upd (upd (upd (upd H p (.dK [])) l1 (.lst [v3])) l2 (.lst [v3])) p (.dK (mergeK [] [(Sum.inr "for", .ref l1), (Sum.inr "double", .ref l2)]))) p = some (.dK [(Sum.inr "for", .ref l1), (Sum.inr "double", .ref l2)]) := by
      rw [upd_same]
      rfl
    have s3 : Same H (upd (upd (upd (upd H p (.dK [])) l1 (.lst [v3])) l2 (.lst [v3])) p (.dK (mergeK [] [(Sum.inr "for", .ref l1), (Sum.inr "double", .ref l2)]))) := Same.upd_new s2 np
    refine ⟨p, rfl, .inl ⟨_, .inl hG⟩, _, rfl, a, _, 0, _, rfl, rfl, SqT.of (s3 _ _ ha), rfl, Nat.zero_le _, fun e ne => ?_⟩
    refine ⟨_, DGet.k (k := Sum.inr "again") (same_new ne _ _ hG), ?_⟩
    have q2 := q e [] _ (s3.trans (same_new (o := .lst []) ne)) (s3.free ne) upd_same rpl_nil
    exact q2
theorem ok_things_of (T : Tops K mg) (n : Nat) (Gthings_of : FnOk P w K mg base CX0 (n + 1) T.fthings_of T.dthings_of ["body"] (prevE n)) : FnOk P w K mg base CX0 (n + 2) T.fthings_of T.dthings_of ["body"] (spEvery n) := by
  have Gbodies_of : FnOk P w K mg base CX0 1 T.fbodies_of T.dbodies_of ["thing"] spBodies := ok_bodies_of T
  refine T.Fthings_of.ok (k := n + 1) scthings_of (fun vs H Q E h => ?_) (fun cdv A outer s H vs Q E hr h => ?_)
  · obtain ⟨v, ts, C, A', sc, rfl, _⟩ := h
    rfl
  obtain ⟨v, ts, C, A', sc, rfl, hR, hT, hc, q⟩ := h
  refine ⟨_, (pss_cons (ps_set (i := 1) scthings_of.nd rfl (Or.inl rfl) (pe_lst pa_nil))
 (pss_cons (ps_for PassesOwn.never rfl (pi_tup (pv 0)) (pg_name (i := 2) scthings_of.nd rfl (Or.inl rfl))
  (pss_cons (ps_expr (pe_bm PySem.F.plainAttrs_list PySem.F.slot_list_append PySem.F.type_list_append mt_append (pv 1) (pa_cons (pv 2) pa_nil)))
 (pss_one (ps_for PassesOwn.never rfl (pi_list (pe_call Gbodies_of (hr.mono (by omega)) (by rfl) T.gbodies_of T.Fbodies_of.kp T.bbodies_of .nil pass0 (pa_cons (pv 2) pa_nil))) (pg_name (i := 3) scthings_of.nd rfl (Or.inl rfl))
  (pss_one (ps_expr (pe_bm PySem.F.plainAttrs_list PySem.F.slot_list_extend PySem.F.type_list_extend mt_extend (pv 1) (pa_cons (pe_call Gthings_of (hr.mono (by omega)) (by rfl) T.gthings_of T.Fthings_of.kp T.bthings_of .nil pass0 (pa_cons (pv 3) pa_nil)) pa_nil))))))))
 (pss_one (ps_ret (pv 1))))), ?_⟩
  obtain ⟨a, vs, rfl, ha, hvs⟩ := id hR
  have hl := hvs.length
  rw [encs_length] at hl
  refine ⟨Nat.zero_le _, fun F0 nF0 => ?_⟩
  have s0 : Same H (upd H F0 (.lst [])) := same_new nF0
  refine ⟨_, rfl, a, rfl, ⟨_, SqT.of (s0 _ _ ha)⟩, ?_⟩
  refine for_tup (xs := vs) (fun i σ H' => ∃ F, (∃ x2 x3, σ = [some (.ref a), some (.ref F), x2, x3]) ∧ H F = none ∧ Same H H' ∧ ∃ us, H' F = some (.lst us) ∧ RpL H' us (encs (everyB (ts.take i)))) ⟨F0, ⟨_, _, rfl⟩, nF0, s0, [], upd_same, rfl⟩ (fun i σ H' _ hP => by
    obtain ⟨F, _, _, s2, _⟩ := hP
    exact SqT.of (s2 _ _ ha)) (fun i x σ H2 hx hP => ?_) (fun σ H2 hP => ?_)
  · obtain ⟨F, ⟨x2, x3, rfl⟩, nF, s2, us, hF2, hR2⟩ := hP
    obtain ⟨t, ht, hRt⟩ := rpl_things (hvs.to (Imm.same s2)) hx
    have hTt : TOk C A' sc n t := (tsok_iff ts).mp hT t (List.mem_of_getElem? ht)
    have hct : cntT t ≤ 1000 := Nat.le_trans (cnt_mem (List.mem_of_getElem? ht)) hc
    have p0 := part_len ht 0
    have l2 := hR2.length
    rw [encs_length] at l2
    have lus : us.length < 100000 := by
      rw [l2]
      rw [List.length_append, List.length_cons] at p0
      omega
    refine ⟨_, rfl, .inl ⟨rfl, _, SqL.of hF2⟩, _, rfl, F, us, x, rfl, rfl, hF2, szl lus, ?_⟩
    have s3 : Same H (upd H2 F (.lst (us ++ [x]))) := Same.upd_new s2 nF
    have i3 : Imm H2 (upd H2 F (.lst (us ++ [x]))) := (Imm.refl H2).upd fun xs e => by rw [hF2] at e; cases e
    refine ⟨_, rfl, x, t, rfl, hRt.to i3, fun B bs H4 s4 nB hB hRb => ?_⟩
    refine ⟨B, rfl, ⟨_, SqL.of hB⟩, ?_⟩
    have lb := hRb.length
    unfold encBs at lb
    rw [List.length_map] at lb
    have nBF : B ≠ F := (ne_of_none upd_same nB).symm
    have nBH : H B = none := s3.free nB
    refine for_list (xs := bs) (fun j σ H' => ∃ F', (∃ x3, σ = [some (.ref a), some (.ref F'), some x, x3]) ∧ H F' = none ∧ F' ≠ B ∧ Same H H' ∧ H' B = some (.lst bs) ∧ RpL H' bs (encBs (bodiesT t)) ∧ ∃ us', H' F' = some (.lst us') ∧ RpL H' us' (encs (everyB (ts.take i) ++ t :: ((bodiesT t).take j).flatMap everyB)))
      ⟨F, ⟨_, rfl⟩, nF, nBF.symm, s3.trans s4, hB, hRb, us ++ [x], s4 _ _ upd_same, ?_⟩ (fun j σ H' _ hP => by
        obtain ⟨F', _, _, _, _, hB', _⟩ := hP
        exact SqL.of hB') (fun j y σ H5 hy hP => ?_) (fun σ H5 hP => ?_)
    · show RpL H4 (us ++ [x]) (encs (everyB (ts.take i) ++ t :: []))
      rw [encs_cons_append]
      exact (hR2.to (i3.trans (Imm.same s4))).append (rpl_cons (hRt.to (i3.trans (Imm.same s4))) rpl_nil)
    · obtain ⟨F', ⟨x3', rfl⟩, nF', nFB, s5, hB5, hRb5, us5, hF5, hR5⟩ := hP
      obtain ⟨b, hb, hRy⟩ := rpl_bodies hRb5 hy
      obtain ⟨sc', m, en, hTb⟩ := bodies_ok hTt b (List.mem_of_getElem? hb)
      subst en
      have hcb : cntB b ≤ 1000 := Nat.le_trans (bodies_cnt b (List.mem_of_getElem? hb)) hct
      have p5 := part_len ht (j + 1)
      rw [flat_step hb] at p5
      have l5 := hR5.length
      rw [encs_length] at l5
      refine ⟨_, rfl, .inl ⟨rfl, _, SqL.of hF5⟩, _, rfl, y, b, C, A', sc', rfl, hRy, hTb, hcb, fun p us6 H6 s6 np hp hR6 => ?_⟩
      have l6 := hR6.length
      rw [encs_length] at l6
      have lz : us5.length + us6.length ≤ 100000 := by
        rw [l5, l6]
        simp only [List.length_append, List.length_cons] at p5 ⊢
        omega
      have hF6 := s6 _ _ hF5
      have i6 : Imm H6 (upd H6 F' (.lst (us5 ++ us6))) := (Imm.refl H6).upd fun xs e => by rw [hF6] at e; cases e
      refine ⟨F', p, us5, us6, rfl, rfl, hF6, hp, sz lz, F', ⟨_, rfl⟩, nF', nFB, Same.upd_new (s5.trans s6) nF', ?_, hRb5.to ((Imm.same s6).trans i6), us5 ++ us6, upd_same, ?_⟩
      · rw [upd_ne nFB.symm]
        exact s6 _ _ hB5
      · rw [flat_step hb]
        have e : everyB (ts.take i) ++ t :: (((bodiesT t).take j).flatMap everyB ++ everyB b) = (everyB (ts.take i) ++ t :: ((bodiesT t).take j).flatMap everyB) ++ everyB b := by rw [List.append_assoc]; rfl
        rw [e, encs_append]
        exact (hR5.to ((Imm.same s6).trans i6)).append (hR6.to i6)
    · obtain ⟨F', ⟨x3', rfl⟩, nF', nFB, s5, hB5, hRb5, us5, hF5, hR5⟩ := hP
      refine ⟨F', ⟨_, _, rfl⟩, nF', s5, us5, hF5, ?_⟩
      rw [lb, List.take_length] at hR5
      rw [everyB_take ht]
      exact hR5
  · obtain ⟨F, ⟨x2, x3, rfl⟩, nF, s2, us, hF2, hR2⟩ := hP
    rw [hl, List.take_length] at hR2
    exact ⟨_, rfl, q F us H2 s2 nF hF2 hR2⟩
theorem ok_things_ofs (T : Tops K mg) : ∀ n : Nat, FnOk P w K mg base CX0 (n + 2) T.fthings_of T.dthings_of ["body"] (spEvery n)
  | 0 => ok_things_of T 0 OG.fn_none
  | n + 1 => ok_things_of T (n + 1) (ok_things_ofs T n)
theorem ok_l_every (T : Tops K mg) (n : Nat) (Gl_every : FnOk P w K mg base CX0 (n + 1) T.fl_every T.dl_every ["_law_plan"] (prevE n)) : FnOk P w K mg base CX0 (n + 2) T.fl_every T.dl_every ["_law_plan"] (spEvery n) := by
  have Gl_bodies : FnOk P w K mg base CX0 1 T.fl_bodies T.dl_bodies ["_law_thing"] spBodies := ok_l_bodies T
  refine T.Fl_every.ok (k := n + 1) scl_every (fun vs H Q E h => ?_) (fun cdv A outer s H vs Q E hr h => ?_)
  · obtain ⟨v, ts, C, A', sc, rfl, _⟩ := h
    rfl
  obtain ⟨v, ts, C, A', sc, rfl, hR, hT, hc, q⟩ := h
  refine ⟨_, (pss_cons (ps_set (i := 1) scl_every.nd rfl (Or.inl rfl) (pe_lst pa_nil))
 (pss_cons (ps_for PassesOwn.never rfl (pi_tup (pv 0)) (pg_name (i := 2) scl_every.nd rfl (Or.inl rfl))
  (pss_cons (ps_expr (pe_bm PySem.F.plainAttrs_list PySem.F.slot_list_append PySem.F.type_list_append mt_append (pv 1) (pa_cons (pv 2) pa_nil)))
 (pss_one (ps_for PassesOwn.never rfl (pi_list (pe_call Gl_bodies (hr.mono (by omega)) (by rfl) T.gl_bodies T.Fl_bodies.kp T.bl_bodies .nil pass0 (pa_cons (pv 2) pa_nil))) (pg_name (i := 3) scl_every.nd rfl (Or.inl rfl))
  (pss_one (ps_set (i := 1) scl_every.nd rfl (Or.inl rfl) (pe_op op_cat (pv 1) (pe_call Gl_every (hr.mono (by omega)) (by rfl) T.gl_every T.Fl_every.kp T.bl_every .nil pass0 (pa_cons (pv 3) pa_nil)))))))))
 (pss_one (ps_ret (pv 1))))), ?_⟩
  obtain ⟨a, vs, rfl, ha, hvs⟩ := id hR
  have hl := hvs.length
  rw [encs_length] at hl
  refine ⟨Nat.zero_le _, fun F0 nF0 => ?_⟩
  have s0 : Same H (upd H F0 (.lst [])) := same_new nF0
  refine ⟨_, rfl, a, rfl, ⟨_, SqT.of (s0 _ _ ha)⟩, ?_⟩
  refine for_tup (xs := vs) (fun i σ H' => ∃ F, (∃ x2 x3, σ = [some (.ref a), some (.ref F), x2, x3]) ∧ H F = none ∧ Same H H' ∧ ∃ us, H' F = some (.lst us) ∧ RpL H' us (encs (everyB (ts.take i)))) ⟨F0, ⟨_, _, rfl⟩, nF0, s0, [], upd_same, rfl⟩ (fun i σ H' _ hP => by
    obtain ⟨F, _, _, s2, _⟩ := hP
    exact SqT.of (s2 _ _ ha)) (fun i x σ H2 hx hP => ?_) (fun σ H2 hP => ?_)
  · obtain ⟨F, ⟨x2, x3, rfl⟩, nF, s2, us, hF2, hR2⟩ := hP
    obtain ⟨t, ht, hRt⟩ := rpl_things (hvs.to (Imm.same s2)) hx
    have hTt : TOk C A' sc n t := (tsok_iff ts).mp hT t (List.mem_of_getElem? ht)
    have hct : cntT t ≤ 1000 := Nat.le_trans (cnt_mem (List.mem_of_getElem? ht)) hc
    have p0 := part_len ht 0
    have l2 := hR2.length
    rw [encs_length] at l2
    have lus : us.length < 100000 := by
      rw [l2]
      rw [List.length_append, List.length_cons] at p0
      omega
    refine ⟨_, rfl, .inl ⟨rfl, _, SqL.of hF2⟩, _, rfl, F, us, x, rfl, rfl, hF2, szl lus, ?_⟩
    have s3 : Same H (upd H2 F (.lst (us ++ [x]))) := Same.upd_new s2 nF
    have i3 : Imm H2 (upd H2 F (.lst (us ++ [x]))) := (Imm.refl H2).upd fun xs e => by rw [hF2] at e; cases e
    refine ⟨_, rfl, x, t, rfl, hRt.to i3, fun B bs H4 s4 nB hB hRb => ?_⟩
    refine ⟨B, rfl, ⟨_, SqL.of hB⟩, ?_⟩
    have lb := hRb.length
    unfold encBs at lb
    rw [List.length_map] at lb
    have nBF : B ≠ F := (ne_of_none upd_same nB).symm
    have nBH : H B = none := s3.free nB
    refine for_list (xs := bs) (fun j σ H' => ∃ F', (∃ x3, σ = [some (.ref a), some (.ref F'), some x, x3]) ∧ H F' = none ∧ F' ≠ B ∧ Same H H' ∧ H' B = some (.lst bs) ∧ RpL H' bs (encBs (bodiesT t)) ∧ ∃ us', H' F' = some (.lst us') ∧ RpL H' us' (encs (everyB (ts.take i) ++ t :: ((bodiesT t).take j).flatMap everyB)))
      ⟨F, ⟨_, rfl⟩, nF, nBF.symm, s3.trans s4, hB, hRb, us ++ [x], s4 _ _ upd_same, ?_⟩ (fun j σ H' _ hP => by
        obtain ⟨F', _, _, _, _, hB', _⟩ := hP
        exact SqL.of hB') (fun j y σ H5 hy hP => ?_) (fun σ H5 hP => ?_)
    · show RpL H4 (us ++ [x]) (encs (everyB (ts.take i) ++ t :: []))
      rw [encs_cons_append]
      exact (hR2.to (i3.trans (Imm.same s4))).append (rpl_cons (hRt.to (i3.trans (Imm.same s4))) rpl_nil)
    · obtain ⟨F', ⟨x3', rfl⟩, nF', nFB, s5, hB5, hRb5, us5, hF5, hR5⟩ := hP
      obtain ⟨b, hb, hRy⟩ := rpl_bodies hRb5 hy
      obtain ⟨sc', m, en, hTb⟩ := bodies_ok hTt b (List.mem_of_getElem? hb)
      subst en
      have hcb : cntB b ≤ 1000 := Nat.le_trans (bodies_cnt b (List.mem_of_getElem? hb)) hct
      have p5 := part_len ht (j + 1)
      rw [flat_step hb] at p5
      have l5 := hR5.length
      rw [encs_length] at l5
      refine ⟨_, rfl, _, rfl, y, b, C, A', sc', rfl, hRy, hTb, hcb, fun p us6 H6 s6 np hp hR6 => ?_⟩
      have l6 := hR6.length
      rw [encs_length] at l6
      have lz : us5.length + us6.length ≤ 100000 := by
        rw [l5, l6]
        simp only [List.length_append, List.length_cons] at p5 ⊢
        omega
      have hF6 := s6 _ _ hF5
      refine ⟨F', p, us5, us6, rfl, rfl, hF6, hp, sz lz, fun F7 nF7 => ?_⟩
      have s7 : Same H6 (upd H6 F7 (.lst (us5 ++ us6))) := same_new nF7
      refine ⟨F7, ⟨_, rfl⟩, (s5.trans s6).free nF7, (ne_of_none (s6 _ _ hB5) nF7).symm, (s5.trans s6).trans s7, s7 _ _ (s6 _ _ hB5), hRb5.to ((Imm.same s6).trans (Imm.same s7)), us5 ++ us6, upd_same, ?_⟩
      rw [flat_step hb]
      have e : everyB (ts.take i) ++ t :: (((bodiesT t).take j).flatMap everyB ++ everyB b) = (everyB (ts.take i) ++ t :: ((bodiesT t).take j).flatMap everyB) ++ everyB b := by rw [List.append_assoc]; rfl
      rw [e, encs_append]
      exact (hR5.to ((Imm.same s6).trans (Imm.same s7))).append (hR6.to (Imm.same s7))
    · obtain ⟨F', ⟨x3', rfl⟩, nF', nFB, s5, hB5, hRb5, us5, hF5, hR5⟩ := hP
      refine ⟨F', ⟨_, _, rfl⟩, nF', s5, us5, hF5, ?_⟩
      rw [lb, List.take_length] at hR5
      rw [everyB_take ht]
      exact hR5
  · obtain ⟨F, ⟨x2, x3, rfl⟩, nF, s2, us, hF2, hR2⟩ := hP
    rw [hl, List.take_length] at hR2
    exact ⟨_, rfl, q F us H2 s2 nF hF2 hR2⟩
theorem ok_l_everys (T : Tops K mg) : ∀ n : Nat, FnOk P w K mg base CX0 (n + 2) T.fl_every T.dl_every ["_law_plan"] (spEvery n)
  | 0 => ok_l_every T 0 OG.fn_none
  | n + 1 => ok_l_every T (n + 1) (ok_l_everys T n)
theorem ok_calls_of (T : Tops K mg) (n : Nat) : FnOk P w K mg base CX0 (n + 3) T.fcalls_of T.dcalls_of ["plan"] (spCalls n) := by
  have Gthings_of : FnOk P w K mg base CX0 (n + 2) T.fthings_of T.dthings_of ["body"] (spEvery n) := ok_things_ofs T n
  refine T.Fcalls_of.ok (k := n + 2) sccalls_of (fun vs H Q E h => ?_) (fun cdv A outer s H vs Q E hr h => ?_)
  · obtain ⟨v, ts, C, A', sc, rfl, _⟩ := h
    rfl
  obtain ⟨v, ts, C, A', sc, rfl, hR, hT, hc, q⟩ := h
  refine ⟨_, (pss_cons (ps_set (i := 1) sccalls_of.nd rfl (Or.inl rfl) (pe_lst pa_nil))
 (pss_cons (ps_for PassesOwn.never rfl (pi_list (pe_call Gthings_of (hr.mono (by omega)) (by rfl) T.gthings_of T.Fthings_of.kp T.bthings_of .nil pass0 (pa_cons (pv 0) pa_nil))) (pg_name (i := 2) sccalls_of.nd rfl (Or.inl rfl))
  (pss_one (ps_if (PW.pt (pw_and (pt_cmpR op_eq (pe_ix ix_tup (pv 2) pe_int (fun _ _ => rfl)) pe_str (nomark _)) (pw_and1 (pt_cmpR op_notIn_seq (pe_ix ix_tup (pv 2) pe_int (fun _ _ => rfl)) (pv 1) (by rfl)))))
  (pss_one (ps_expr (pe_bm PySem.F.plainAttrs_list PySem.F.slot_list_append PySem.F.type_list_append mt_append (pv 1) (pa_cons (pe_ix ix_tup (pv 2) pe_int (fun _ _ => rfl)) pa_nil))))
  pss_nil)))
 (pss_one (ps_ret (pv 1))))), ?_⟩
  refine ⟨Nat.zero_le _, fun F nF => ?_⟩
  have s0 : Same H (upd H F (.lst [])) := same_new nF
  refine ⟨_, rfl, v, ts, C, A', sc, rfl, hR.to (Imm.same s0), hT, hc, fun B us H1 s1 nB hB hRB => ?_⟩
  refine ⟨B, rfl, ⟨_, SqL.of hB⟩, ?_⟩
  have nBF : B ≠ F := (ne_of_none upd_same nB).symm
  have lu := hRB.length
  rw [encs_length] at lu
  have lu2 : us.length ≤ 1000 := by rw [lu, everyB_len]; exact hc
  refine for_list (xs := us) (fun i σ H' => (∃ x2, σ = [some v, some (.ref F), x2]) ∧ Same H H' ∧ H' B = some (.lst us) ∧ RpL H' us (encs (everyB ts)) ∧ H' F = some (.lst ((((everyB ts).take i).foldl addC []).map V.str)))
    ⟨⟨_, rfl⟩, s0.trans s1, hB, hRB, s1 _ _ upd_same⟩ (fun i σ H' _ hP => SqL.of hP.2.2.1) (fun i x σ H2 hx hP => ?_) (fun σ H2 hP => ?_)
  · obtain ⟨⟨x2, rfl⟩, s2, hB2, hR2, hF2⟩ := hP
    obtain ⟨t, ht, hRt⟩ := rpl_things hR2 hx
    have step : ((everyB ts).take (i + 1)).foldl addC [] = addC (((everyB ts).take i).foldl addC []) t := by
      rw [List.take_add_one, ht, List.foldl_append]
      rfl
    have hacc : (((everyB ts).take i).foldl addC []).length ≤ 1000 := by
      have h1 := foldC_len ((everyB ts).take i) []
      rw [List.length_take] at h1
      have : (everyB ts).length ≤ 1000 := by rw [everyB_len]; exact hc
      simp only [List.length_nil] at h1
      omega
    by_cases hk : kindT t = "call"
    · obtain ⟨y, e, rfl⟩ := kind_call hk
      obtain ⟨a, v1, v2, v3, rfl, ha, rfl, rfl, h3⟩ := rp_t3 hRt
      refine ⟨_, rfl, a, _, 0, _, rfl, rfl, SqT.of ha, rfl, rfl, _, rfl, ite2 (fun _ => ?_) (fun z => absurd (by decide +kernel) z)⟩
      refine ⟨_, rfl, a, _, 1, _, rfl, rfl, SqT.of ha, rfl, _, rfl, F, _, rfl, .inl (SqL.of hF2), rfl, flat_strs _, _, rfl, ite2 (fun c => ?_) (fun c => ?_)⟩
      · have c3 : (!inV (.str y) ((((everyB ts).take i).foldl addC []).map V.str)) = true := c
        rw [inV_str] at c3
        have hy : y ∉ ((everyB ts).take i).foldl addC [] := fun hm => by
          rw [decide_eq_true hm] at c3
          cases c3
        refine ⟨_, rfl, .inl ⟨rfl, _, SqL.of hF2⟩, _, rfl, a, _, 1, _, rfl, rfl, SqT.of ha, rfl, F, _, _, rfl, rfl, hF2, szl (by rw [List.length_map]; omega), ?_⟩
        have i2 : Imm H2 (upd H2 F (.lst ((((everyB ts).take i).foldl addC []).map V.str ++ [.str y]))) := (Imm.refl H2).upd fun xs e => by rw [hF2] at e; cases e
        refine ⟨⟨_, rfl⟩, Same.upd_new s2 nF, ?_, hR2.to i2, ?_⟩
        · rw [upd_ne nBF]
          exact hB2
        · rw [upd_same, step]
          show some (HO.lst _) = some (HO.lst ((if y ∈ ((everyB ts).take i).foldl addC [] then _ else _ ++ [y]).map V.str))
          rw [if_neg hy, List.map_append]
          rfl
      · have c3 : (!inV (.str y) ((((everyB ts).take i).foldl addC []).map V.str)) = false := Bool.eq_false_iff.mpr c
        rw [inV_str] at c3
        have hy : y ∈ ((everyB ts).take i).foldl addC [] := by
          by_cases hm : y ∈ ((everyB ts).take i).foldl addC []
          · exact hm
          · rw [decide_eq_false hm] at c3
            cases c3
        refine ⟨⟨_, rfl⟩, s2, hB2, hR2, ?_⟩
        rw [hF2, step]
        show some (HO.lst _) = some (HO.lst ((if y ∈ ((everyB ts).take i).foldl addC [] then _ else _ ++ [y]).map V.str))
        rw [if_pos hy]
    · obtain ⟨a, vs2, rfl, ha⟩ := rp_kind hRt
      refine ⟨_, rfl, a, _, 0, _, rfl, rfl, SqT.of ha, atI_nat (j := 0) rfl, rfl, _, rfl, ite2 (fun z => absurd (V.str.inj (of_decide_eq_true z)) hk) (fun _ => ?_)⟩
      refine ⟨⟨_, rfl⟩, s2, hB2, hR2, ?_⟩
      rw [hF2, step, addC_no hk]
  · obtain ⟨⟨x2, rfl⟩, s2, hB2, hR2, hF2⟩ := hP
    rw [lu, List.take_length] at hF2
    exact ⟨_, rfl, q F H2 s2 nF hF2⟩
theorem ok_l_calls (T : Tops K mg) (n : Nat) : FnOk P w K mg base CX0 (n + 3) T.fl_calls T.dl_calls ["_law_plan"] (spCalls n) := by
  have Gl_every : FnOk P w K mg base CX0 (n + 2) T.fl_every T.dl_every ["_law_plan"] (spEvery n) := ok_l_everys T n
  refine T.Fl_calls.ok (k := n + 2) scl_calls (fun vs H Q E h => ?_) (fun cdv A outer s H vs Q E hr h => ?_)
  · obtain ⟨v, ts, C, A', sc, rfl, _⟩ := h
    rfl
  obtain ⟨v, ts, C, A', sc, rfl, hR, hT, hc, q⟩ := h
  refine ⟨_, (pss_cons (ps_set (i := 1) scl_calls.nd rfl (Or.inl rfl) (pe_lst pa_nil))
 (pss_cons (ps_for PassesOwn.never rfl (pi_list (pe_call Gl_every (hr.mono (by omega)) (by rfl) T.gl_every T.Fl_every.kp T.bl_every .nil pass0 (pa_cons (pv 0) pa_nil))) (pg_name (i := 2) scl_calls.nd rfl (Or.inl rfl))
  (pss_one (ps_if (PW.pt (pw_and (pt_cmpR op_eq (pe_ix ix_tup (pv 2) pe_int (fun _ _ => rfl)) pe_str (nomark _)) (pw_and1 (pt_cmpR op_notIn_seq (pe_ix ix_tup (pv 2) pe_int (fun _ _ => rfl)) (pv 1) (by rfl)))))
  (pss_one (ps_expr (pe_bm PySem.F.plainAttrs_list PySem.F.slot_list_append PySem.F.type_list_append mt_append (pv 1) (pa_cons (pe_ix ix_tup (pv 2) pe_int (fun _ _ => rfl)) pa_nil))))
  pss_nil)))
 (pss_one (ps_ret (pv 1))))), ?_⟩
  refine ⟨Nat.zero_le _, fun F nF => ?_⟩
  have s0 : Same H (upd H F (.lst [])) := same_new nF
  refine ⟨_, rfl, v, ts, C, A', sc, rfl, hR.to (Imm.same s0), hT, hc, fun B us H1 s1 nB hB hRB => ?_⟩
  refine ⟨B, rfl, ⟨_, SqL.of hB⟩, ?_⟩
  have nBF : B ≠ F := (ne_of_none upd_same nB).symm
  have lu := hRB.length
  rw [encs_length] at lu
  have lu2 : us.length ≤ 1000 := by rw [lu, everyB_len]; exact hc
  refine for_list (xs := us) (fun i σ H' => (∃ x2, σ = [some v, some (.ref F), x2]) ∧ Same H H' ∧ H' B = some (.lst us) ∧ RpL H' us (encs (everyB ts)) ∧ H' F = some (.lst ((((everyB ts).take i).foldl addC []).map V.str)))
    ⟨⟨_, rfl⟩, s0.trans s1, hB, hRB, s1 _ _ upd_same⟩ (fun i σ H' _ hP => SqL.of hP.2.2.1) (fun i x σ H2 hx hP => ?_) (fun σ H2 hP => ?_)
  · obtain ⟨⟨x2, rfl⟩, s2, hB2, hR2, hF2⟩ := hP
    obtain ⟨t, ht, hRt⟩ := rpl_things hR2 hx
    have step : ((everyB ts).take (i + 1)).foldl addC [] = addC (((everyB ts).take i).foldl addC []) t := by
      rw [List.take_add_one, ht, List.foldl_append]
      rfl
    have hacc : (((everyB ts).take i).foldl addC []).length ≤ 1000 := by
      have h1 := foldC_len ((everyB ts).take i) []
      rw [List.length_take] at h1
      have : (everyB ts).length ≤ 1000 := by rw [everyB_len]; exact hc
      simp only [List.length_nil] at h1
      omega
    by_cases hk : kindT t = "call"
    · obtain ⟨y, e, rfl⟩ := kind_call hk
      obtain ⟨a, v1, v2, v3, rfl, ha, rfl, rfl, h3⟩ := rp_t3 hRt
      refine ⟨_, rfl, a, _, 0, _, rfl, rfl, SqT.of ha, rfl, rfl, _, rfl, ite2 (fun _ => ?_) (fun z => absurd (by decide +kernel) z)⟩
      refine ⟨_, rfl, a, _, 1, _, rfl, rfl, SqT.of ha, rfl, _, rfl, F, _, rfl, .inl (SqL.of hF2), rfl, flat_strs _, _, rfl, ite2 (fun c => ?_) (fun c => ?_)⟩
      · have c3 : (!inV (.str y) ((((everyB ts).take i).foldl addC []).map V.str)) = true := c
        rw [inV_str] at c3
        have hy : y ∉ ((everyB ts).take i).foldl addC [] := fun hm => by
          rw [decide_eq_true hm] at c3
          cases c3
        refine ⟨_, rfl, .inl ⟨rfl, _, SqL.of hF2⟩, _, rfl, a, _, 1, _, rfl, rfl, SqT.of ha, rfl, F, _, _, rfl, rfl, hF2, szl (by rw [List.length_map]; omega), ?_⟩
        have i2 : Imm H2 (upd H2 F (.lst ((((everyB ts).take i).foldl addC []).map V.str ++ [.str y]))) := (Imm.refl H2).upd fun xs e => by rw [hF2] at e; cases e
        refine ⟨⟨_, rfl⟩, Same.upd_new s2 nF, ?_, hR2.to i2, ?_⟩
        · rw [upd_ne nBF]
          exact hB2
        · rw [upd_same, step]
          show some (HO.lst _) = some (HO.lst ((if y ∈ ((everyB ts).take i).foldl addC [] then _ else _ ++ [y]).map V.str))
          rw [if_neg hy, List.map_append]
          rfl
      · have c3 : (!inV (.str y) ((((everyB ts).take i).foldl addC []).map V.str)) = false := Bool.eq_false_iff.mpr c
        rw [inV_str] at c3
        have hy : y ∈ ((everyB ts).take i).foldl addC [] := by
          by_cases hm : y ∈ ((everyB ts).take i).foldl addC []
          · exact hm
          · rw [decide_eq_false hm] at c3
            cases c3
        refine ⟨⟨_, rfl⟩, s2, hB2, hR2, ?_⟩
        rw [hF2, step]
        show some (HO.lst _) = some (HO.lst ((if y ∈ ((everyB ts).take i).foldl addC [] then _ else _ ++ [y]).map V.str))
        rw [if_pos hy]
    · obtain ⟨a, vs2, rfl, ha⟩ := rp_kind hRt
      refine ⟨_, rfl, a, _, 0, _, rfl, rfl, SqT.of ha, atI_nat (j := 0) rfl, rfl, _, rfl, ite2 (fun z => absurd (V.str.inj (of_decide_eq_true z)) hk) (fun _ => ?_)⟩
      refine ⟨⟨_, rfl⟩, s2, hB2, hR2, ?_⟩
      rw [hF2, step, addC_no hk]
  · obtain ⟨⟨x2, rfl⟩, s2, hB2, hR2, hF2⟩ := hP
    rw [lu, List.take_length] at hF2
    exact ⟨_, rfl, q F H2 s2 nF hF2⟩
end
end K07

set_option Elab.async false
set_option linter.all false
set_option maxRecDepth 100000
set_option maxHeartbeats 4000000
namespace K07
open PySem PySem.Spec PyProof.Rows L2 OG
open C8 (pss_cut pe_gc)
section
variable {P : Program} {w : World} {K : PySem.W.Frag} {mg : Str → Option Value} {base : Heap}
theorem ok_with (T : Tops K mg) (n : Nat) (Gl_with_calls : FnOk P w K mg base CX0 (n + 2) T.fl_with_calls T.dl_with_calls ["_law_draw", "_law_plan", "_law_names"] (prevC n)) : FnOk P w K mg base CX0 (n + 3) T.fl_with_calls T.dl_with_calls ["_law_draw", "_law_plan", "_law_names"] (spWith n) := by
  have Gl_take : FnOk P w K mg base CX0 1 T.fl_take T.dl_take ["_law_draw", "_law_sides"] spTake := ok_take T
  have Gl_pick : FnOk P w K mg base CX0 2 T.fl_pick T.dl_pick ["_law_draw", "_law_row"] (spPick K) := ok_pick T
  refine T.Fl_with_calls.ok (k := n + 2) scl_with_calls (fun vs H Q E h => ?_) (fun cdv A outer s H vs Q E hr h => ?_)
  · obtain ⟨d, L, nm, v, ts, ns, sc, rfl, _⟩ := h
    rfl
  obtain ⟨d, L, nm, v, ts, ns, sc, rfl, hD, hR, hT, hn, hc, hnm, nmd, hne, hln, hns, q⟩ := h
  refine ⟨_, (pss_cons (ps_set (i := 3) scl_with_calls.nd rfl (Or.inl rfl) (pe_tup pa_nil))
 (pss_cons (ps_for PassesOwn.never rfl (pi_tup (pv 1)) (pg_name (i := 4) scl_with_calls.nd rfl (Or.inl rfl))
  (pss_cut (ps_if (PW.pt (pw_and (pt_cmpR op_eq (pe_ix ix_tup (pv 4) pe_int (fun _ _ => rfl)) pe_str (nomark _)) (pw_and1 (pt_cmpR op_gt (pe_call Gl_take (hr.mono (by omega)) (by rfl) T.gl_take T.Fl_take.kp T.bl_take .nil pass0 (pa_cons (pv 0) (pa_cons pe_int pa_nil))) pe_int (nomark _)))))
  (pss_one (ps_set (i := 4) scl_with_calls.nd rfl (Or.inl rfl) (pe_tup (pa_cons pe_str (pa_cons (pe_call Gl_pick (hr.mono (by omega)) (by rfl) T.gl_pick T.Fl_pick.kp T.bl_pick .nil pass0 (pa_cons (pv 0) (pa_cons (pv 2) pa_nil))) (pa_cons (pe_tup (pa_cons pe_str (pa_cons pe_int pa_nil))) pa_nil))))))
  pss_nil)
 (pss_cut (ps_if (pt_cmpR op_in_seq (pe_ix ix_tup (pv 4) pe_int (fun _ _ => rfl)) (pe_lst (pa_cons pe_str (pa_cons pe_str pa_nil))) (by rfl))
  (pss_one (ps_set (i := 4) scl_with_calls.nd rfl (Or.inl rfl) (pe_op op_catA (pe_slice sl_tupA (pv 4) po_none (po_some (pe_un un_neg pe_int))) (pe_tup (pa_cons (pe_call Gl_with_calls (hr.mono (by omega)) (by rfl) T.gl_with_calls T.Fl_with_calls.kp T.bl_with_calls .nil pass0 (pa_cons (pv 0) (pa_cons (pe_ix ix_tup (pv 4) (pe_un un_neg pe_int) (fun _ _ => rfl)) (pa_cons (pv 2) pa_nil)))) pa_nil)))))
  pss_nil)
 (pss_cut (ps_if (pt_cmpR op_eq (pe_ix ix_tup (pv 4) pe_int (fun _ _ => rfl)) pe_str (nomark _))
  (pss_one (ps_set (i := 4) scl_with_calls.nd rfl (Or.inl rfl) (pe_op op_catA (pe_slice sl_tupA (pv 4) po_none (po_some pe_int)) (pe_tup (pa_cons (pe_call Gl_with_calls (hr.mono (by omega)) (by rfl) T.gl_with_calls T.Fl_with_calls.kp T.bl_with_calls .nil pass0 (pa_cons (pv 0) (pa_cons (pe_ix ix_tup (pv 4) pe_int (fun _ _ => rfl)) (pa_cons (pv 2) pa_nil)))) (pa_cons (pe_call Gl_with_calls (hr.mono (by omega)) (by rfl) T.gl_with_calls T.Fl_with_calls.kp T.bl_with_calls .nil pass0 (pa_cons (pv 0) (pa_cons (pe_ix ix_tup (pv 4) pe_int (fun _ _ => rfl)) (pa_cons (pv 2) pa_nil)))) pa_nil))))))
  pss_nil)
 (pss_one (ps_set (i := 3) scl_with_calls.nd rfl (Or.inl rfl) (pe_op op_catA (pv 3) (pe_tup (pa_cons (pv 4) pa_nil)))))))))
 (pss_one (ps_ret (pv 3))))), ?_⟩
  obtain ⟨a, vs, rfl, ha, hvs⟩ := id hR
  have hl := hvs.length
  rw [encs_length] at hl
  have hpos : 0 < ns.length := List.length_pos_iff.mpr hne
  refine ⟨Nat.zero_le _, fun F0 nF0 => ?_⟩
  have s0 : Same H (upd H F0 (.tup [])) := same_new nF0
  refine ⟨_, rfl, a, rfl, ⟨_, SqT.of (s0 _ _ ha)⟩, ?_⟩
  refine for_tup (xs := vs) (fun i σ H' => ∃ vf ts', (∃ x4, σ = [some (.ref d), some (.ref a), some (.ref nm), some vf, x4]) ∧ Dr H' d L ∧ Go (· = d) H H' ∧ Rp H' vf (.tup (encs ts')) ∧ TsOk CT False sc n ts' ∧ cntB ts' = cntB (ts.take i) ∧ ts'.length = i)
    ⟨_, [], ⟨_, rfl⟩, hD.new nF0, Go.same s0, rp_tup upd_same rpl_nil, trivial, rfl, rfl⟩ (fun i σ H' _ hP => by
      obtain ⟨vf, ts', _, _, G2, _⟩ := hP
      exact SqT.of (G2.im _ _ ha)) (fun i x σ H2 hx hP => ?_) (fun σ H2 hP => ?_)
  · obtain ⟨vf, ts', ⟨x4, rfl⟩, hD2, G2, hRf, hT', hc', hl'⟩ := hP
    obtain ⟨t, ht, hRt⟩ := rpl_things (hvs.to G2.im) hx
    have hTt : TOk CT False sc n t := (tsok_iff ts).mp hT t (List.mem_of_getElem? ht)
    have hct : cntT t ≤ 1000 := Nat.le_trans (cnt_mem (List.mem_of_getElem? ht)) hc
    have hct2 : cntB (ts.take (i + 1)) = cntB (ts.take i) + cntT t := by
      rw [List.take_add_one, ht, cntB_append]
      rfl
    have hnm2 := G2.at hnm nmd
    let J : L2.St → Hp → Prop := fun σ' H' => ∃ x' t', σ' = [some (.ref d), some (.ref a), some (.ref nm), some vf, some x'] ∧ Rp H' x' (enc t') ∧ TOk CT False sc n t' ∧ cntT t' = cntT t ∧ Dr H' d L ∧ Go (· = d) H2 H'
    refine ⟨J, ?_, ?_⟩
    · by_cases hk : kindT t = "step"
      · obtain ⟨k, rfl⟩ := kind_step hk
        obtain ⟨a1, v1, v2, rfl, ha1, rfl, h2⟩ := rp_t2 hRt
        refine ⟨_, rfl, a1, _, 0, _, rfl, rfl, SqT.of ha1, rfl, rfl, _, rfl, ite2 (fun _ => ?_) (fun z => absurd (by decide +kernel) z)⟩
        refine ⟨_, rfl, d, L, 3, rfl, hD2, by decide, by decide, fun g H3 g0 g1 hD3 hB3 => ?_⟩
        have G3 : Go (· = d) H2 H3 := Go.but hD2 hB3 rfl
        refine ⟨_, 0, rfl, rfl, _, rfl, ite2 (fun _ => ?_) (fun _ => ?_)⟩
        · have hnm3 := G3.at hnm2 nmd
          refine ⟨_, rfl, _, rfl, d, L, _, ns.length, rfl, hD3, hpos, by omega, .inr ⟨nm, ns.map V.str, rfl, nmd, SqL.of hnm3, List.length_map _, fun y H4 hy hD4 hB4 => ?_⟩⟩
          obtain ⟨z, rfl, hz⟩ := mem_strs hy
          have G4 := G3.trans (Go.but hD3 hB4 (M := (· = d)) rfl)
          refine ⟨(by show 2 ≤ sizeLine; decide), fun p1 np1 => ?_⟩
          refine ⟨(by show 3 ≤ sizeLine; decide), fun p2 np2 => ?_⟩
          have s5 : Same H4 (upd (upd H4 p1 (.tup [.str "n", .int 0])) p2 (.tup [.str "call", .str z, .ref p1])) := (same_new np1).trans (same_new np2)
          have hR5 : Rp (upd (upd H4 p1 (.tup [.str "n", .int 0])) p2 (.tup [.str "call", .str z, .ref p1])) (.ref p2) (enc (.call z ("n", 0))) :=
            rp_tup upd_same (rpl_cons rfl (rpl_cons rfl (rpl_cons (rp_tup (same_new np2 _ _ upd_same) (rpl_cons rfl (rpl_cons rfl rpl_nil))) rpl_nil)))
          exact ⟨_, .call z ("n", 0), rfl, hR5, ⟨hns z hz, trivial, .inr ⟨hn, by decide, by decide⟩⟩, rfl, hD4.same s5, G4.trans (Go.same s5)⟩
        · exact ⟨_, .step k, rfl, hRt.to G3.im, hTt, rfl, hD3, G3⟩
      · obtain ⟨a1, u1, rfl, ha1⟩ := rp_kind hRt
        refine ⟨_, rfl, a1, _, 0, _, rfl, rfl, SqT.of ha1, atI_nat (j := 0) rfl, rfl, _, rfl, ite2 (fun z => absurd (V.str.inj (of_decide_eq_true z)) hk) (fun _ => ?_)⟩
        exact ⟨_, t, rfl, hRt, hTt, rfl, hD2, Go.refl _ _⟩
    rintro σ' H1 ⟨x', t', rfl, hRx, hTx, hcx, hD1, G1⟩
    have hnm1 := G1.at hnm2 nmd
    refine ⟨J, ?_, ?_⟩
    · cases t' with
      | step k =>
        obtain ⟨a1, v1, v2, rfl, ha1, rfl, h2⟩ := rp_t2 hRx
        refine ⟨_, rfl, a1, _, 0, _, rfl, rfl, SqT.of ha1, rfl, (by show 2 ≤ sizeLine; decide), fun l nl => ?_⟩
        have sl : Same H1 (upd H1 l (.lst [.str "for", .str "double"])) := same_new nl
        refine ⟨l, _, rfl, .inl (SqL.of upd_same), rfl, rfl, _, rfl, ite2 (fun z => absurd z (by decide +kernel)) (fun _ => ?_)⟩
        exact ⟨_, _, rfl, hRx.to (Imm.same sl), hTx, hcx, hD1.same sl, G1.trans (Go.same sl)⟩
      | loop y e1 e2 b =>
        obtain ⟨a1, v1, v2, v3, v4, v5, rfl, ha1, rfl, h2, h3, h4, h5⟩ := rp_t5 hRx
        refine ⟨_, rfl, a1, _, 0, _, rfl, rfl, SqT.of ha1, rfl, (by show 2 ≤ sizeLine; decide), fun l nl => ?_⟩
        have sl : Same H1 (upd H1 l (.lst [.str "for", .str "double"])) := same_new nl
        refine ⟨l, _, rfl, .inl (SqL.of upd_same), rfl, rfl, _, rfl, ite2 (fun _ => ?_) (fun z => absurd (by decide +kernel) z)⟩
        obtain ⟨y1, y2, y3, y4, y5, m, en, hTb⟩ := id hTx
        subst en
        have hcb : cntB b ≤ 1000 := by
          have : 1 + cntB b = cntT t := hcx
          omega
        refine ⟨_, rfl, 1, rfl, _, rfl, ?_⟩
        refine sl_rp (K := K) (lo := none) (hi := some (-1)) (hRx.to (Imm.same sl)) fun w1 H3 s3 hR3 => ?_
        have s23 := sl.trans s3
        refine ⟨_, rfl, _, rfl, 1, rfl, a1, _, -1, _, rfl, rfl, SqT.of (s23 _ _ ha1), rfl, _, rfl, d, L, nm, v5, b, ns, sc ++ [y], rfl, hD1.same s23, h5.to (Imm.same s23), hTb, List.mem_append_left _ hn, hcb, s23 _ _ hnm1, nmd, hne, hln, hns, fun v' b' H4 hne4 hR4 hT4 hc4 hD4 G4 => ?_⟩
        refine ⟨(by show 1 ≤ sizeLine; decide), fun p np => ?_⟩
        have G24 : Go (· = d) H1 H4 := (Go.same s23).trans G4
        have hp1 : Rp (upd H4 p (.tup [v'])) (.ref p) (.tup [.tup (encs b')]) := rp_tup upd_same (rpl_cons (hR4.to (Imm.same (same_new np))) rpl_nil)
        have hR3' : Rp H3 w1 (.tup [.str "for", .str y, encE e1, encE e2]) := hR3
        refine cat_rp ((hR3'.to G4.im).to (Imm.same (same_new np))) hp1 (by show 4 + 1 ≤ 100000; decide) fun w2 H5 s5 hR5 => ?_
        exact ⟨_, .loop y e1 e2 b', rfl, hR5, ⟨y1, y2, y3, y4, hne4 y5, m, rfl, hT4⟩, by have : 1 + cntB b = cntT t := hcx; show 1 + cntB b' = cntT t; omega, ((hD4.new np).same s5), G1.trans ((G24.new np).trans (Go.same s5))⟩
      | test e1 e2 b c =>
        obtain ⟨a1, v1, v2, v3, v4, v5, rfl, ha1, rfl, h2, h3, h4, h5⟩ := rp_t5 hRx
        refine ⟨_, rfl, a1, _, 0, _, rfl, rfl, SqT.of ha1, rfl, (by show 2 ≤ sizeLine; decide), fun l nl => ?_⟩
        have sl : Same H1 (upd H1 l (.lst [.str "for", .str "double"])) := same_new nl
        refine ⟨l, _, rfl, .inl (SqL.of upd_same), rfl, rfl, _, rfl, ite2 (fun z => absurd z (by decide +kernel)) (fun _ => ?_)⟩
        exact ⟨_, _, rfl, hRx.to (Imm.same sl), hTx, hcx, hD1.same sl, G1.trans (Go.same sl)⟩
      | twice b =>
        obtain ⟨a1, v1, v2, rfl, ha1, rfl, h2⟩ := rp_t2 hRx
        refine ⟨_, rfl, a1, _, 0, _, rfl, rfl, SqT.of ha1, rfl, (by show 2 ≤ sizeLine; decide), fun l nl => ?_⟩
        have sl : Same H1 (upd H1 l (.lst [.str "for", .str "double"])) := same_new nl
        refine ⟨l, _, rfl, .inl (SqL.of upd_same), rfl, rfl, _, rfl, ite2 (fun _ => ?_) (fun z => absurd (by decide +kernel) z)⟩
        obtain ⟨y5, m, en, hTb⟩ := id hTx
        subst en
        have hcb : cntB b ≤ 1000 := by
          have : 1 + cntB b = cntT t := hcx
          omega
        refine ⟨_, rfl, 1, rfl, _, rfl, ?_⟩
        refine sl_rp (K := K) (lo := none) (hi := some (-1)) (hRx.to (Imm.same sl)) fun w1 H3 s3 hR3 => ?_
        have s23 := sl.trans s3
        refine ⟨_, rfl, _, rfl, 1, rfl, a1, _, -1, _, rfl, rfl, SqT.of (s23 _ _ ha1), rfl, _, rfl, d, L, nm, v2, b, ns, sc, rfl, hD1.same s23, h2.to (Imm.same s23), hTb, hn, hcb, s23 _ _ hnm1, nmd, hne, hln, hns, fun v' b' H4 hne4 hR4 hT4 hc4 hD4 G4 => ?_⟩
        refine ⟨(by show 1 ≤ sizeLine; decide), fun p np => ?_⟩
        have G24 : Go (· = d) H1 H4 := (Go.same s23).trans G4
        have hp1 : Rp (upd H4 p (.tup [v'])) (.ref p) (.tup [.tup (encs b')]) := rp_tup upd_same (rpl_cons (hR4.to (Imm.same (same_new np))) rpl_nil)
        have hR3' : Rp H3 w1 (.tup [.str "double"]) := hR3
        refine cat_rp ((hR3'.to G4.im).to (Imm.same (same_new np))) hp1 (by show 1 + 1 ≤ 100000; decide) fun w2 H5 s5 hR5 => ?_
        exact ⟨_, .twice b', rfl, hR5, ⟨hne4 y5, m, rfl, hT4⟩, by have : 1 + cntB b = cntT t := hcx; show 1 + cntB b' = cntT t; omega, ((hD4.new np).same s5), G1.trans ((G24.new np).trans (Go.same s5))⟩
      | call y e =>
        obtain ⟨a1, v1, v2, v3, rfl, ha1, rfl, h2, h3⟩ := rp_t3 hRx
        refine ⟨_, rfl, a1, _, 0, _, rfl, rfl, SqT.of ha1, rfl, (by show 2 ≤ sizeLine; decide), fun l nl => ?_⟩
        have sl : Same H1 (upd H1 l (.lst [.str "for", .str "double"])) := same_new nl
        refine ⟨l, _, rfl, .inl (SqL.of upd_same), rfl, rfl, _, rfl, ite2 (fun z => absurd z (by decide +kernel)) (fun _ => ?_)⟩
        exact ⟨_, _, rfl, hRx.to (Imm.same sl), hTx, hcx, hD1.same sl, G1.trans (Go.same sl)⟩
      | again k w =>
        obtain ⟨a1, v1, v2, v3, rfl, ha1, rfl, h2, h3⟩ := rp_t3 hRx
        refine ⟨_, rfl, a1, _, 0, _, rfl, rfl, SqT.of ha1, rfl, (by show 2 ≤ sizeLine; decide), fun l nl => ?_⟩
        have sl : Same H1 (upd H1 l (.lst [.str "for", .str "double"])) := same_new nl
        refine ⟨l, _, rfl, .inl (SqL.of upd_same), rfl, rfl, _, rfl, ite2 (fun z => absurd z (by decide +kernel)) (fun _ => ?_)⟩
        exact ⟨_, _, rfl, hRx.to (Imm.same sl), hTx, hcx, hD1.same sl, G1.trans (Go.same sl)⟩
    rintro σ' H1' ⟨x'', t'', rfl, hRx, hTx, hcx, hD1, G1⟩
    have hnm1 := G1.at hnm2 nmd
    refine ⟨J, ?_, ?_⟩
    · by_cases hk : kindT t'' = "if"
      · obtain ⟨e1, e2, b, c, rfl⟩ := kind_if hk
        obtain ⟨a1, v1, v2, v3, v4, v5, rfl, ha1, rfl, h2, h3, h4, h5⟩ := rp_t5 hRx
        refine ⟨_, rfl, a1, _, 0, _, rfl, rfl, SqT.of ha1, rfl, rfl, _, rfl, ite2 (fun _ => ?_) (fun z => absurd (by decide +kernel) z)⟩
        obtain ⟨y3, y4, y5, m, en, hTb, hTc⟩ := id hTx
        subst en
        have hcb : cntB b ≤ 1000 ∧ cntB c ≤ 1000 := by
          have : 1 + cntB b + cntB c = cntT t := hcx
          omega
        refine ⟨_, rfl, 3, rfl, ?_⟩
        refine sl_rp (K := K) (lo := none) (hi := some 3) hRx fun w1 H3 s3 hR3 => ?_
        refine ⟨_, rfl, _, rfl, a1, _, 3, _, rfl, rfl, SqT.of (s3 _ _ ha1), rfl, _, rfl, d, L, nm, v4, b, ns, sc, rfl, hD1.same s3, h4.to (Imm.same s3), hTb, hn, hcb.1, s3 _ _ hnm1, nmd, hne, hln, hns, fun v' b' H4 hne4 hR4 hT4 hc4 hD4 G4 => ?_⟩
        have G24 : Go (· = d) H1' H4 := (Go.same s3).trans G4
        refine ⟨_, rfl, _, rfl, a1, _, 4, _, rfl, rfl, SqT.of (G24.im _ _ ha1), rfl, _, rfl, d, L, nm, v5, c, ns, sc, rfl, hD4, h5.to G24.im, hTc, hn, hcb.2, G24.at hnm1 nmd, nmd, hne, hln, hns, fun v6 c6 H6 hne6 hR6 hT6 hc6 hD6 G6 => ?_⟩
        have G26 := G24.trans G6
        refine ⟨(by show 2 ≤ sizeLine; decide), fun p np => ?_⟩
        have hp1 : Rp (upd H6 p (.tup [v', v6])) (.ref p) (.tup [.tup (encs b'), .tup (encs c6)]) := rp_tup upd_same (rpl_cons ((hR4.to G6.im).to (Imm.same (same_new np))) (rpl_cons (hR6.to (Imm.same (same_new np))) rpl_nil))
        have hR3' : Rp H3 w1 (.tup [.str "if", encE e1, encE e2]) := hR3
        refine cat_rp (((hR3'.to G4.im).to G6.im).to (Imm.same (same_new np))) hp1 (by show 3 + 2 ≤ 100000; decide) fun w2 H5 s5 hR5 => ?_
        exact ⟨_, .test e1 e2 b' c6, rfl, hR5, ⟨y3, y4, hne4 y5, m, rfl, hT4, hT6⟩, by have : 1 + cntB b + cntB c = cntT t := hcx; show 1 + cntB b' + cntB c6 = cntT t; omega, (hD6.new np).same s5, G1.trans ((G26.new np).trans (Go.same s5))⟩
      · obtain ⟨a1, u1, rfl, ha1⟩ := rp_kind hRx
        refine ⟨_, rfl, a1, _, 0, _, rfl, rfl, SqT.of ha1, atI_nat (j := 0) rfl, rfl, _, rfl, ite2 (fun z => absurd (V.str.inj (of_decide_eq_true z)) hk) (fun _ => ?_)⟩
        exact ⟨_, t'', rfl, hRx, hTx, hcx, hD1, G1⟩
    rintro σ' H3 ⟨x3, t3, rfl, hRx, hTx, hcx, hD3, G3⟩
    refine ⟨_, rfl, _, rfl, (by show 1 ≤ sizeLine; decide), fun p np => ?_⟩
    have hp1 : Rp (upd H3 p (.tup [x3])) (.ref p) (.tup (encs [t3])) := rp_tup upd_same (rpl_cons (hRx.to (Imm.same (same_new np))) rpl_nil)
    have hl3 : ts'.length ≤ 1000 := by
      have h1 := cnt_len ts'
      have h2 := cnt_take ts i
      omega
    refine cat_rp ((hRf.to G3.im).to (Imm.same (same_new np))) hp1 (by rw [encs_length, encs_length]; show ts'.length + 1 ≤ 100000; omega) fun w2 H5 s5 hR5 => ?_
    rw [← encs_append] at hR5
    refine ⟨_, ts' ++ [t3], ⟨_, rfl⟩, (hD3.new np).same s5, ((G2.trans G3).new np).trans (Go.same s5), hR5, tsok_append hT' ⟨hTx, trivial⟩, ?_, by rw [List.length_append, hl']; rfl⟩
    rw [cntB_append, hct2, hc']
    show _ + (cntT t3 + 0) = _
    omega
  · obtain ⟨vf, ts', ⟨x4, rfl⟩, hD2, G2, hRf, hT', hc', hl'⟩ := hP
    rw [hl, List.take_length] at hc'
    refine ⟨_, rfl, q vf ts' H2 (fun hz hz2 => ?_) hRf hT' hc' hD2 G2⟩
    subst hz2
    exact hz (List.eq_nil_of_length_eq_zero (by rw [← hl, ← hl']; rfl))
theorem ok_withs (T : Tops K mg) : ∀ n : Nat, FnOk P w K mg base CX0 (n + 3) T.fl_with_calls T.dl_with_calls ["_law_draw", "_law_plan", "_law_names"] (spWith n)
  | 0 => ok_with T 0 OG.fn_none
  | n + 1 => ok_with T (n + 1) (ok_withs T n)
end
end K07

set_option Elab.async false
set_option linter.all false
set_option maxRecDepth 100000
set_option maxHeartbeats 4000000
namespace K07
open PySem PySem.Spec PyProof.Rows L2 OG
open C8 (pss_cut pe_gc)
section
variable {P : Program} {w : World} {K : PySem.W.Frag} {mg : Str → Option Value} {base : Heap}
theorem ok_law (T : Tops K mg) : FnOk P w K mg base CX0 40 T.flaw T.dlaw ["_law_script"] (spLaw K) := by
  have Gl_begin : FnOk P w K mg base CX0 1 T.fl_begin T.dl_begin ["_law_script"] (spBegin K) := ok_begin T
  have Gl_take : FnOk P w K mg base CX0 1 T.fl_take T.dl_take ["_law_draw", "_law_sides"] spTake := ok_take T
  have Gl_fresh : FnOk P w K mg base CX0 3 T.fl_fresh T.dl_fresh ["_law_draw", "_law_taken"] spFresh := ok_fresh T
  have Gl_drawn : FnOk P w K mg base CX0 15 T.fl_drawn T.dl_drawn ["_law_draw", "_law_room", "_law_figures", "_law_wide"] spDrawn := ok_drawn T
  have Gl_same : FnOk P w K mg base CX0 21 T.fl_same T.dl_same ["_law_found", "_law_due"] (spSame 20) := ok_same T 20
  have Gl_with_calls : FnOk P w K mg base CX0 7 T.fl_with_calls T.dl_with_calls ["_law_draw", "_law_plan", "_law_names"] (spWith 4) := ok_withs T 4
  have Gcalls_of : FnOk P w K mg base CX0 7 T.fcalls_of T.dcalls_of ["plan"] (spCalls 4) := ok_calls_of T 4
  have Gl_calls : FnOk P w K mg base CX0 7 T.fl_calls T.dl_calls ["_law_plan"] (spCalls 4) := ok_l_calls T 4
  refine T.Flaw.ok (k := 39) sclaw (fun vs H Q E h => ?_) (fun cdv A outer s H vs Q E hr h => ?_)
  · obtain ⟨a, ns, rfl, _⟩ := h
    rfl
  obtain ⟨a, ns, rfl, hS, hlen, q⟩ := h
  refine ⟨_, (pss_cons (ps_set (i := 1) sclaw.nd rfl (Or.inr rfl) (pe_call Gl_begin (hr.mono (by omega)) (by rfl) T.gl_begin T.Fl_begin.kp T.bl_begin .nil pass0 (pa_cons (pv 0) pa_nil)))
 (pss_cons (ps_for PassesOwn.never rfl (pi_range1 (by rfl) T.mrange (pa_cons pe_int pa_nil)) (pg_name (i := 2) sclaw.nd rfl (Or.inl rfl))
  (pss_cons (ps_setLc (i := 3) (own := [("_law_k", 7)]) rfl sclaw.nd rfl rfl (sw_true rfl rfl rfl (by decide +kernel)) (pi_range1 (by rfl) T.mrange (pa_cons (pe_op op_add pe_int (pe_call Gl_take (hr.mono (by omega)) (by rfl) T.gl_take T.Fl_take.kp T.bl_take .nil pass0 (pa_cons (pv 1) (pa_cons pe_int pa_nil)))) pa_nil)) (blkOk_by (N := Nlaw) (sc := defScope slaw) (by decide +kernel)) (fun _ _ _ _ _ => (pg_name (i := 7) sclaw.nd rfl (Or.inl rfl))) (fun _ _ _ _ _ => pts_nil) (fun _ _ _ _ _ => (pe_call Gl_fresh (hr.mono (by omega)) (by rfl) T.gl_fresh T.Fl_fresh.kp T.bl_fresh .nil pass0 (pa_cons (pv 1) (pa_cons (pe_lst pa_nil) pa_nil)))))
 (pss_cons (ps_set (i := 4) sclaw.nd rfl (Or.inl rfl) (pe_call Gl_with_calls (hr.mono (by omega)) (by rfl) T.gl_with_calls T.Fl_with_calls.kp T.bl_with_calls .nil pass0 (pa_cons (pv 1) (pa_cons (pe_call Gl_drawn (hr.mono (by omega)) (by rfl) T.gl_drawn T.Fl_drawn.kp T.bl_drawn .nil pass0 (pa_cons (pv 1) (pa_cons pe_int (pa_cons pe_bl (pa_cons pe_bl pa_nil))))) (pa_cons (pv 3) pa_nil)))))
 (pss_one (ps_for PassesOwn.never rfl (pi_range1 (by rfl) T.mrange (pa_cons pe_int pa_nil)) (pg_name (i := 5) sclaw.nd rfl (Or.inl rfl))
  (pss_cons (ps_set (i := 6) sclaw.nd rfl (Or.inl rfl) (pe_call Gcalls_of (hr.mono (by omega)) (by rfl) T.gcalls_of T.Fcalls_of.kp T.bcalls_of .nil pass0 (pa_cons (pv 4) pa_nil)))
 (pss_cons (ps_if (pt_not (pt_val (pe_call Gl_same (hr.mono (by omega)) (by rfl) T.gl_same T.Fl_same.kp T.bl_same .nil pass0 (pa_cons (pv 6) (pa_cons (pe_call Gl_calls (hr.mono (by omega)) (by rfl) T.gl_calls T.Fl_calls.kp T.bl_calls .nil pass0 (pa_cons (pv 4) pa_nil)) pa_nil)))))
  (pss_one (ps_ret pe_bl))
  pss_nil)
 (pss_one (ps_expr (pe_bm PySem.F.plainAttrs_list PySem.F.slot_list_append PySem.F.type_list_append mt_append (pv 6) (pa_cons pe_str pa_nil)))))))))))
 (pss_one (ps_ret pe_bl)))), ?_⟩
  refine ⟨_, rfl, a, ns, rfl, hS, fun d L H1 sm nd nL hD => ?_⟩
  refine ⟨8, rfl, by decide, by decide, ?_⟩
  refine for_range (n := 8) (fun i σ H' => (∃ x2 x3 x4 x5 x6 x7, σ = [some (.ref a), some (.ref d), x2, x3, x4, x5, x6, x7]) ∧ Dr H' d L) ⟨⟨_, _, _, _, _, _, rfl⟩, hD⟩ (fun i σ H2 hi hP => ?_) (fun σ H2 hP => ?_)
  · obtain ⟨⟨x2, x3, x4, x5, x6, x7, rfl⟩, hD2⟩ := hP
    -- names
    refine ⟨_, rfl, d, L, 4, rfl, hD2, by decide, by decide, fun g H3 g0 g1 hD3 hB3 => ?_⟩
    refine ⟨1, g, rfl, rfl, _, rfl, by omega, by omega, fun nm nnm => ?_⟩
    refine lc_range (lo := 0) (n := (1 + g).toNat) (fun i H' => Dr H' d L ∧ nm ≠ d ∧ nm ≠ L ∧ ∃ zs : List Str, zs.length = i ∧ (∀ z ∈ zs, nameB z = true) ∧ H' nm = some (.lst (zs.map V.str)))
      ⟨hD3.new nnm, (hD3.neNew nnm).1, (hD3.neNew nnm).2, [], rfl, (fun _ h => by cases h), upd_same⟩ (fun j H4 hj hP => ?_) (fun H4 hP => ?_)
    · obtain ⟨hD4, n1, n2, zs, hz, hnz, hm4⟩ := hP
      refine ⟨rfl, yes_go ?_⟩
      refine ⟨_, rfl, Nat.zero_le _, fun e ne => ?_⟩
      refine ⟨d, L, e, [], rfl, hD4.new ne, upd_same, (hD4.neNew ne).1, by decide, fun x H5 hx _ hD5 G5 => ?_⟩
      have hm5 : H5 nm = some (.lst (zs.map V.str)) := G5.at (same_new ne _ _ hm4) n1
      refine ⟨_, hm5, szl (by rw [List.length_map]; omega), hD5.upd n1 n2, n1, n2, zs ++ [x], by rw [List.length_append, hz]; rfl, fun z hz2 => ?_, ?_⟩
      · rcases List.mem_append.mp hz2 with h1 | h1
        · exact hnz z h1
        · rw [List.mem_singleton.mp h1]
          exact hx
      · rw [upd_same, List.map_append]
        rfl
    · obtain ⟨hD4, n1, n2, zs, hz, hnz, hm4⟩ := hP
      -- plan
      refine ⟨_, rfl, _, rfl, d, L, 12, true, false, rfl, hD4, by decide, by decide, fun v ts H5 hts hR hT hc hD5 G5 => ?_⟩
      have hzn : zs ≠ [] := fun e => by
        rw [e] at hz
        have : (0 : Nat) = (1 + g).toNat := hz
        omega
      refine ⟨_, rfl, d, L, nm, v, ts, zs, ["n"], rfl, hD5, hR, tsok_mono (fun _ _ => trivial) id _ _ _ hT, List.mem_singleton.mpr rfl, by omega, G5.at hm4 n1, n1, hzn, by omega, hnz, fun v' ts' H6 _ hR6 hT6 hc6 hD6 G6 => ?_⟩
      refine ⟨2, rfl, by decide, by decide, ?_⟩
      refine for_range (n := 2) (fun i σ H' => (∃ x2 x3 x5 x6 x7, σ = [some (.ref a), some (.ref d), x2, x3, some v', x5, x6, x7]) ∧ Dr H' d L ∧ Rp H' v' (.tup (encs ts'))) ⟨⟨_, _, _, _, _, rfl⟩, hD6, hR6⟩ (fun j σ H7 hj hP => ?_) (fun σ H7 hP => ?_)
      · obtain ⟨⟨y2, y3, y5, y6, y7, rfl⟩, hD7, hR7⟩ := hP
        have hc7 : cntB ts' ≤ 1000 := by omega
        refine ⟨_, rfl, v', ts', CT, False, ["n"], rfl, hR7, hT6, hc7, fun p H8 s8 np hp => ?_⟩
        refine ⟨_, rfl, _, rfl, v', ts', CT, False, ["n"], rfl, hR7.to (Imm.same s8), hT6, hc7, fun p2 H9 s9 np2 hp2 => ?_⟩
        have lc : (callsL ts').length ≤ 1000 := by
          have h1 := foldC_len (everyB ts') []
          have h2 := everyB_len ts'
          simp only [List.length_nil] at h1
          unfold callsL
          omega
        have hE : Eq2 H9 20 (.ref p) (.ref p2) := .inr ⟨p, p2, _, _, rfl, rfl, .inr ⟨s9 _ _ hp, hp2⟩, rfl, by rw [List.length_map]; omega, fun k x y hx hy => by
          have e : x = y := Option.some.inj (hx.symm.trans hy)
          subst e
          have hm := List.mem_of_getElem? hx
          obtain ⟨z, _, rfl⟩ := List.mem_map.mp hm
          exact Eq2.flat rfl 19⟩
        refine ⟨_, _, rfl, hE, fun H10 s10 => ?_⟩
        refine ⟨true, rfl, iteF ?_⟩
        have hp10 := s10 _ _ (s9 _ _ hp)
        have hD10 := ((hD7.same s8).same s9).same s10
        refine ⟨_, rfl, .inl ⟨rfl, _, SqL.of hp10⟩, p, _, _, rfl, rfl, hp10, szl (by rw [List.length_map]; omega), ?_⟩
        have nn := hD7.neNew np
        refine ⟨⟨_, _, _, _, _, rfl⟩, hD10.upd nn.1 nn.2, ?_⟩
        have i10 : Imm H10 (upd H10 p (.lst ((callsL ts').map V.str ++ [.str "zz"]))) := (Imm.refl H10).upd fun xs e => by rw [hp10] at e; cases e
        exact (((hR7.to (Imm.same s8)).to (Imm.same s9)).to (Imm.same s10)).to i10
      · obtain ⟨⟨y2, y3, y5, y6, y7, rfl⟩, hD7, hR7⟩ := hP
        exact ⟨⟨_, _, _, _, _, _, rfl⟩, hD7⟩
  · exact q H2
end
theorem all_mk {K : PySem.W.Frag} {h : Heap} {mg : Str → Option Value} {fa : Addr} (X : K.In h) (G : h.Ns mainGlobals mg) (hfa : mg "law" = some (.ref fa))
    {f1 : Addr} {od1 an1 : Option Addr} {sl1 : Array (Option Value)} {oc1 kV1 dc1 pm1 cd1 ct1 : Value}
    {f2 : Addr} {od2 an2 : Option Addr} {sl2 : Array (Option Value)} {oc2 kV2 dc2 pm2 cd2 ct2 : Value}
    {f3 : Addr} {od3 an3 : Option Addr} {sl3 : Array (Option Value)} {oc3 kV3 dc3 pm3 cd3 ct3 : Value}
    {f4 : Addr} {od4 an4 : Option Addr} {sl4 : Array (Option Value)} {oc4 kV4 dc4 pm4 cd4 ct4 : Value}
    {f5 : Addr} {od5 an5 : Option Addr} {sl5 : Array (Option Value)} {oc5 kV5 dc5 pm5 cd5 ct5 : Value}
    {f6 : Addr} {od6 an6 : Option Addr} {sl6 : Array (Option Value)} {oc6 kV6 dc6 pm6 cd6 ct6 : Value}
    {f7 : Addr} {od7 an7 : Option Addr} {sl7 : Array (Option Value)} {oc7 kV7 dc7 pm7 cd7 ct7 : Value}
    {f8 : Addr} {od8 an8 : Option Addr} {sl8 : Array (Option Value)} {oc8 kV8 dc8 pm8 cd8 ct8 : Value}
    {f9 : Addr} {od9 an9 : Option Addr} {sl9 : Array (Option Value)} {oc9 kV9 dc9 pm9 cd9 ct9 : Value}
    {f10 : Addr} {od10 an10 : Option Addr} {sl10 : Array (Option Value)} {oc10 kV10 dc10 pm10 cd10 ct10 : Value}
    {f11 : Addr} {od11 an11 : Option Addr} {sl11 : Array (Option Value)} {oc11 kV11 dc11 pm11 cd11 ct11 : Value}
    {f12 : Addr} {od12 an12 : Option Addr} {sl12 : Array (Option Value)} {oc12 kV12 dc12 pm12 cd12 ct12 : Value}
    {f13 : Addr} {od13 an13 : Option Addr} {sl13 : Array (Option Value)} {oc13 kV13 dc13 pm13 cd13 ct13 : Value}
    {f14 : Addr} {od14 an14 : Option Addr} {sl14 : Array (Option Value)} {oc14 kV14 dc14 pm14 cd14 ct14 : Value}
    {f15 : Addr} {od15 an15 : Option Addr} {sl15 : Array (Option Value)} {oc15 kV15 dc15 pm15 cd15 ct15 : Value}
    {f16 : Addr} {od16 an16 : Option Addr} {sl16 : Array (Option Value)} {oc16 kV16 dc16 pm16 cd16 ct16 : Value}
    {f17 : Addr} {od17 an17 : Option Addr} {sl17 : Array (Option Value)} {oc17 kV17 dc17 pm17 cd17 ct17 : Value}
    {f18 : Addr} {od18 an18 : Option Addr} {sl18 : Array (Option Value)} {oc18 kV18 dc18 pm18 cd18 ct18 : Value}
    {f19 : Addr} {od19 an19 : Option Addr} {sl19 : Array (Option Value)} {oc19 kV19 dc19 pm19 cd19 ct19 : Value}
    (a1 : PySem.W.nsIn K mainGlobals "bodies_of" = some (some (.ref f1))) (l1 : K.lookup f1 = some ⟨oc1, od1, .func (PySem.W.fnOf "bodies_of" "bodies_of" (defArgs sbodies_of) (defBody sbodies_of) (defScope sbodies_of) .none kV1 dc1 pm1 an1 cd1 ct1), sl1⟩) (c1 : PySem.W.codeIn K cd1 "bodies_of" = true) (k1 : PySem.W.keepIn K (.ref f1) = true)
    (a2 : PySem.W.nsIn K mainGlobals "things_of" = some (some (.ref f2))) (l2 : K.lookup f2 = some ⟨oc2, od2, .func (PySem.W.fnOf "things_of" "things_of" (defArgs sthings_of) (defBody sthings_of) (defScope sthings_of) .none kV2 dc2 pm2 an2 cd2 ct2), sl2⟩) (c2 : PySem.W.codeIn K cd2 "things_of" = true) (k2 : PySem.W.keepIn K (.ref f2) = true)
    (a3 : PySem.W.nsIn K mainGlobals "calls_of" = some (some (.ref f3))) (l3 : K.lookup f3 = some ⟨oc3, od3, .func (PySem.W.fnOf "calls_of" "calls_of" (defArgs scalls_of) (defBody scalls_of) (defScope scalls_of) .none kV3 dc3 pm3 an3 cd3 ct3), sl3⟩) (c3 : PySem.W.codeIn K cd3 "calls_of" = true) (k3 : PySem.W.keepIn K (.ref f3) = true)
    (a4 : PySem.W.nsIn K mainGlobals "_law_begin" = some (some (.ref f4))) (l4 : K.lookup f4 = some ⟨oc4, od4, .func (PySem.W.fnOf "_law_begin" "_law_begin" (defArgs sl_begin) (defBody sl_begin) (defScope sl_begin) .none kV4 dc4 pm4 an4 cd4 ct4), sl4⟩) (c4 : PySem.W.codeIn K cd4 "_law_begin" = true) (k4 : PySem.W.keepIn K (.ref f4) = true)
    (a5 : PySem.W.nsIn K mainGlobals "_law_take" = some (some (.ref f5))) (l5 : K.lookup f5 = some ⟨oc5, od5, .func (PySem.W.fnOf "_law_take" "_law_take" (defArgs sl_take) (defBody sl_take) (defScope sl_take) .none kV5 dc5 pm5 an5 cd5 ct5), sl5⟩) (c5 : PySem.W.codeIn K cd5 "_law_take" = true) (k5 : PySem.W.keepIn K (.ref f5) = true)
    (a6 : PySem.W.nsIn K mainGlobals "_law_pick" = some (some (.ref f6))) (l6 : K.lookup f6 = some ⟨oc6, od6, .func (PySem.W.fnOf "_law_pick" "_law_pick" (defArgs sl_pick) (defBody sl_pick) (defScope sl_pick) .none kV6 dc6 pm6 an6 cd6 ct6), sl6⟩) (c6 : PySem.W.codeIn K cd6 "_law_pick" = true) (k6 : PySem.W.keepIn K (.ref f6) = true)
    (a7 : PySem.W.nsIn K mainGlobals "_law_kept_words" = some (some (.ref f7))) (l7 : K.lookup f7 = some ⟨oc7, od7, .func (PySem.W.fnOf "_law_kept_words" "_law_kept_words" (defArgs sl_kept_words) (defBody sl_kept_words) (defScope sl_kept_words) .none kV7 dc7 pm7 an7 cd7 ct7), sl7⟩) (c7 : PySem.W.codeIn K cd7 "_law_kept_words" = true) (k7 : PySem.W.keepIn K (.ref f7) = true)
    (a8 : PySem.W.nsIn K mainGlobals "_law_fresh" = some (some (.ref f8))) (l8 : K.lookup f8 = some ⟨oc8, od8, .func (PySem.W.fnOf "_law_fresh" "_law_fresh" (defArgs sl_fresh) (defBody sl_fresh) (defScope sl_fresh) .none kV8 dc8 pm8 an8 cd8 ct8), sl8⟩) (c8 : PySem.W.codeIn K cd8 "_law_fresh" = true) (k8 : PySem.W.keepIn K (.ref f8) = true)
    (a9 : PySem.W.nsIn K mainGlobals "_law_with_calls" = some (some (.ref f9))) (l9 : K.lookup f9 = some ⟨oc9, od9, .func (PySem.W.fnOf "_law_with_calls" "_law_with_calls" (defArgs sl_with_calls) (defBody sl_with_calls) (defScope sl_with_calls) .none kV9 dc9 pm9 an9 cd9 ct9), sl9⟩) (c9 : PySem.W.codeIn K cd9 "_law_with_calls" = true) (k9 : PySem.W.keepIn K (.ref f9) = true)
    (a10 : PySem.W.nsIn K mainGlobals "_law_some_end" = some (some (.ref f10))) (l10 : K.lookup f10 = some ⟨oc10, od10, .func (PySem.W.fnOf "_law_some_end" "_law_some_end" (defArgs sl_some_end) (defBody sl_some_end) (defScope sl_some_end) .none kV10 dc10 pm10 an10 cd10 ct10), sl10⟩) (c10 : PySem.W.codeIn K cd10 "_law_some_end" = true) (k10 : PySem.W.keepIn K (.ref f10) = true)
    (a11 : PySem.W.nsIn K mainGlobals "_law_leaf" = some (some (.ref f11))) (l11 : K.lookup f11 = some ⟨oc11, od11, .func (PySem.W.fnOf "_law_leaf" "_law_leaf" (defArgs sl_leaf) (defBody sl_leaf) (defScope sl_leaf) .none kV11 dc11 pm11 an11 cd11 ct11), sl11⟩) (c11 : PySem.W.codeIn K cd11 "_law_leaf" = true) (k11 : PySem.W.keepIn K (.ref f11) = true)
    (a12 : PySem.W.nsIn K mainGlobals "_law_drawn_thing" = some (some (.ref f12))) (l12 : K.lookup f12 = some ⟨oc12, od12, .func (PySem.W.fnOf "_law_drawn_thing" "_law_drawn_thing" (defArgs sl_drawn_thing) (defBody sl_drawn_thing) (defScope sl_drawn_thing) .none kV12 dc12 pm12 an12 cd12 ct12), sl12⟩) (c12 : PySem.W.codeIn K cd12 "_law_drawn_thing" = true) (k12 : PySem.W.keepIn K (.ref f12) = true)
    (a13 : PySem.W.nsIn K mainGlobals "_law_drawn_body" = some (some (.ref f13))) (l13 : K.lookup f13 = some ⟨oc13, od13, .func (PySem.W.fnOf "_law_drawn_body" "_law_drawn_body" (defArgs sl_drawn_body) (defBody sl_drawn_body) (defScope sl_drawn_body) .none kV13 dc13 pm13 an13 cd13 ct13), sl13⟩) (c13 : PySem.W.codeIn K cd13 "_law_drawn_body" = true) (k13 : PySem.W.keepIn K (.ref f13) = true)
    (a14 : PySem.W.nsIn K mainGlobals "_law_drawn" = some (some (.ref f14))) (l14 : K.lookup f14 = some ⟨oc14, od14, .func (PySem.W.fnOf "_law_drawn" "_law_drawn" (defArgs sl_drawn) (defBody sl_drawn) (defScope sl_drawn) .none kV14 dc14 pm14 an14 cd14 ct14), sl14⟩) (c14 : PySem.W.codeIn K cd14 "_law_drawn" = true) (k14 : PySem.W.keepIn K (.ref f14) = true)
    (a15 : PySem.W.nsIn K mainGlobals "_law_same" = some (some (.ref f15))) (l15 : K.lookup f15 = some ⟨oc15, od15, .func (PySem.W.fnOf "_law_same" "_law_same" (defArgs sl_same) (defBody sl_same) (defScope sl_same) .none kV15 dc15 pm15 an15 cd15 ct15), sl15⟩) (c15 : PySem.W.codeIn K cd15 "_law_same" = true) (k15 : PySem.W.keepIn K (.ref f15) = true)
    (a16 : PySem.W.nsIn K mainGlobals "_law_bodies" = some (some (.ref f16))) (l16 : K.lookup f16 = some ⟨oc16, od16, .func (PySem.W.fnOf "_law_bodies" "_law_bodies" (defArgs sl_bodies) (defBody sl_bodies) (defScope sl_bodies) .none kV16 dc16 pm16 an16 cd16 ct16), sl16⟩) (c16 : PySem.W.codeIn K cd16 "_law_bodies" = true) (k16 : PySem.W.keepIn K (.ref f16) = true)
    (a17 : PySem.W.nsIn K mainGlobals "_law_every" = some (some (.ref f17))) (l17 : K.lookup f17 = some ⟨oc17, od17, .func (PySem.W.fnOf "_law_every" "_law_every" (defArgs sl_every) (defBody sl_every) (defScope sl_every) .none kV17 dc17 pm17 an17 cd17 ct17), sl17⟩) (c17 : PySem.W.codeIn K cd17 "_law_every" = true) (k17 : PySem.W.keepIn K (.ref f17) = true)
    (a18 : PySem.W.nsIn K mainGlobals "_law_calls" = some (some (.ref f18))) (l18 : K.lookup f18 = some ⟨oc18, od18, .func (PySem.W.fnOf "_law_calls" "_law_calls" (defArgs sl_calls) (defBody sl_calls) (defScope sl_calls) .none kV18 dc18 pm18 an18 cd18 ct18), sl18⟩) (c18 : PySem.W.codeIn K cd18 "_law_calls" = true) (k18 : PySem.W.keepIn K (.ref f18) = true)
    (a19 : PySem.W.nsIn K mainGlobals "law" = some (some (.ref f19))) (l19 : K.lookup f19 = some ⟨oc19, od19, .func (PySem.W.fnOf "law" "law" (defArgs slaw) (defBody slaw) (defScope slaw) .none kV19 dc19 pm19 an19 cd19 ct19), sl19⟩) (c19 : PySem.W.codeIn K cd19 "law" = true) (k19 : PySem.W.keepIn K (.ref f19) = true)
    (z1 : PySem.W.nsIn K mainGlobals "abs" = some none)
    (z2 : PySem.W.nsIn K mainGlobals "all" = some none)
    (z3 : PySem.W.nsIn K mainGlobals "bool" = some none)
    (z4 : PySem.W.nsIn K mainGlobals "int" = some none)
    (z5 : PySem.W.nsIn K mainGlobals "isinstance" = some none)
    (z6 : PySem.W.nsIn K mainGlobals "len" = some none)
    (z7 : PySem.W.nsIn K mainGlobals "list" = some none)
    (z8 : PySem.W.nsIn K mainGlobals "range" = some none)
    (z9 : PySem.W.nsIn K mainGlobals "sorted" = some none)
    (z10 : PySem.W.nsIn K mainGlobals "str" = some none)
    (z11 : PySem.W.nsIn K mainGlobals "tuple" = some none)
    (z12 : PySem.W.nsIn K mainGlobals "zip" = some none) :
    ∃ T : Tops K mg, T.flaw = fa := by
  have e := hfa.symm.trans (PySem.W.mg_of X G a19)
  refine ⟨{ fbodies_of := f1, dbodies_of := _, Fbodies_of := (fun_mk (st := sbodies_of) l1 c1 k1), gbodies_of := (PySem.W.mg_of X G a1), fthings_of := f2, dthings_of := _, Fthings_of := (fun_mk (st := sthings_of) l2 c2 k2), gthings_of := (PySem.W.mg_of X G a2), fcalls_of := f3, dcalls_of := _, Fcalls_of := (fun_mk (st := scalls_of) l3 c3 k3), gcalls_of := (PySem.W.mg_of X G a3), fl_begin := f4, dl_begin := _, Fl_begin := (fun_mk (st := sl_begin) l4 c4 k4), gl_begin := (PySem.W.mg_of X G a4), fl_take := f5, dl_take := _, Fl_take := (fun_mk (st := sl_take) l5 c5 k5), gl_take := (PySem.W.mg_of X G a5), fl_pick := f6, dl_pick := _, Fl_pick := (fun_mk (st := sl_pick) l6 c6 k6), gl_pick := (PySem.W.mg_of X G a6), fl_kept_words := f7, dl_kept_words := _, Fl_kept_words := (fun_mk (st := sl_kept_words) l7 c7 k7), gl_kept_words := (PySem.W.mg_of X G a7), fl_fresh := f8, dl_fresh := _, Fl_fresh := (fun_mk (st := sl_fresh) l8 c8 k8), gl_fresh := (PySem.W.mg_of X G a8), fl_with_calls := f9, dl_with_calls := _, Fl_with_calls := (fun_mk (st := sl_with_calls) l9 c9 k9), gl_with_calls := (PySem.W.mg_of X G a9), fl_some_end := f10, dl_some_end := _, Fl_some_end := (fun_mk (st := sl_some_end) l10 c10 k10), gl_some_end := (PySem.W.mg_of X G a10), fl_leaf := f11, dl_leaf := _, Fl_leaf := (fun_mk (st := sl_leaf) l11 c11 k11), gl_leaf := (PySem.W.mg_of X G a11), fl_drawn_thing := f12, dl_drawn_thing := _, Fl_drawn_thing := (fun_mk (st := sl_drawn_thing) l12 c12 k12), gl_drawn_thing := (PySem.W.mg_of X G a12), fl_drawn_body := f13, dl_drawn_body := _, Fl_drawn_body := (fun_mk (st := sl_drawn_body) l13 c13 k13), gl_drawn_body := (PySem.W.mg_of X G a13), fl_drawn := f14, dl_drawn := _, Fl_drawn := (fun_mk (st := sl_drawn) l14 c14 k14), gl_drawn := (PySem.W.mg_of X G a14), fl_same := f15, dl_same := _, Fl_same := (fun_mk (st := sl_same) l15 c15 k15), gl_same := (PySem.W.mg_of X G a15), fl_bodies := f16, dl_bodies := _, Fl_bodies := (fun_mk (st := sl_bodies) l16 c16 k16), gl_bodies := (PySem.W.mg_of X G a16), fl_every := f17, dl_every := _, Fl_every := (fun_mk (st := sl_every) l17 c17 k17), gl_every := (PySem.W.mg_of X G a17), fl_calls := f18, dl_calls := _, Fl_calls := (fun_mk (st := sl_calls) l18 c18 k18), gl_calls := (PySem.W.mg_of X G a18), flaw := f19, dlaw := _, Flaw := (fun_mk (st := slaw) l19 c19 k19), glaw := (PySem.W.mg_of X G a19), mabs := PySem.W.mg_none_of X G z1, mall := PySem.W.mg_none_of X G z2, mbool := PySem.W.mg_none_of X G z3, mint := PySem.W.mg_none_of X G z4, misinstance := PySem.W.mg_none_of X G z5, mlen := PySem.W.mg_none_of X G z6, mlist := PySem.W.mg_none_of X G z7, mrange := PySem.W.mg_none_of X G z8, msorted := PySem.W.mg_none_of X G z9, mstr := PySem.W.mg_none_of X G z10, mtuple := PySem.W.mg_none_of X G z11, mzip := PySem.W.mg_none_of X G z12 }, ?_⟩
  cases e
  rfl
end K07
open PySem PySem.W PyProof.Rows
set_option maxRecDepth 100000 in
set_option maxHeartbeats 0 in
theorem PySem.Challenge.cw_outgrow_k07_names_that_plans_call_holds : PySem.Challenge.rw_outgrow_k07_names_that_plans_call.Holds := by
  w_on; o_law; k_head; (case hw => w_witness2)
  k_fill
  refine L2.walk_of (l := PySem.Challenge.rw_outgrow_k07_names_that_plans_call) (n := 63) (k := 40) (x := "_law_script") (CX := fun _ => L2.CX0) (sp := fun w => OG.spLaw _) rfl (by decide) rfl ⟨rfl, by decide, by decide⟩ (fun w h Y => PySem.W.kIn_of Y) ?F (fun _ _ a ns hl _ hS => ⟨a, ns, rfl, hS, hl, fun _ => rfl⟩) (fun _ _ _ _ _ h => h)
  case F =>
    intro w mg fa h KX G hmg
    have hT := K07.all_mk KX G hmg (by k_is) (by k_is) (by k_is) (by k_is) (by k_is) (by k_is) (by k_is) (by k_is) (by k_is) (by k_is) (by k_is) (by k_is) (by k_is) (by k_is) (by k_is) (by k_is) (by k_is) (by k_is) (by k_is) (by k_is) (by k_is) (by k_is) (by k_is) (by k_is) (by k_is) (by k_is) (by k_is) (by k_is) (by k_is) (by k_is) (by k_is) (by k_is) (by k_is) (by k_is) (by k_is) (by k_is) (by k_is) (by k_is) (by k_is) (by k_is) (by k_is) (by k_is) (by k_is) (by k_is) (by k_is) (by k_is) (by k_is) (by k_is) (by k_is) (by k_is) (by k_is) (by k_is) (by k_is) (by k_is) (by k_is) (by k_is) (by k_is) (by k_is) (by k_is) (by k_is) (by k_is) (by k_is) (by k_is) (by k_is) (by k_is) (by k_is) (by k_is) (by k_is) (by k_is) (by k_is) (by k_is) (by k_is) (by k_is) (by k_is) (by k_is) (by k_is) (by k_is) (by k_is) (by k_is) (by k_is) (by k_is) (by k_is) (by k_is) (by k_is) (by k_is) (by k_is) (by k_is) (by k_is)
    obtain ⟨T, rfl⟩ := hT
    exact ⟨T.dlaw, T.blaw, fun base _ _ => K07.ok_law T⟩
