import PyProof.Rows.All
import Wide.All
import OpenK.AllK
import Wide.FinOn
import HandS.ForMost
import HandS.Walk
import HandS.Codes
import HandS.IsInst
import HandS.Style
import HandS.TupAny
import HandS.FStr
import HandS.CallLocal
import HandS.More
import HandS.Zip
import HandS.Star
import PySem.Challenge.RW_outgrow_k15_whole_growths_are_ordered
set_option Elab.async false
set_option linter.all false
set_option maxRecDepth 100000
set_option maxHeartbeats 4000000
namespace OG
open PySem PySem.Spec PyProof.Rows L2
open C8 (pss_cut pe_gc)

/-! ### heaps -/
theorem same_new {H : Hp} {p : Addr} {o : HO} (h : H p = none) : Same H (upd H p o) := fun b u e => by
  rw [upd_ne (ne_of_none e h)]
  exact e
/-- only the object at d may differ -/
def But (d : Addr) (H H' : Hp) : Prop := ∀ b, b ≠ d → H' b = H b
theorem But.refl (d : Addr) (H : Hp) : But d H H := fun _ _ => rfl
theorem But.trans {d : Addr} {H H1 H2 : Hp} (a : But d H H1) (b : But d H1 H2) : But d H H2 := fun x h => (b x h).trans (a x h)
theorem but_upd {d : Addr} {H : Hp} {o : HO} : But d H (upd H d o) := fun _ h => upd_ne h
/-- all that was tracked stands as it was, but for what M tells -/
def Sx (M : Addr → Prop) (H H' : Hp) : Prop := ∀ b u, ¬ M b → H b = some u → H' b = some u
theorem Sx.refl (M : Addr → Prop) (H : Hp) : Sx M H H := fun _ _ _ h => h
theorem Sx.trans {M : Addr → Prop} {H H1 H2 : Hp} (a : Sx M H H1) (b : Sx M H1 H2) : Sx M H H2 := fun c u n h => b c u n (a c u n h)
theorem Sx.of_same {M : Addr → Prop} {H H' : Hp} (a : Same H H') : Sx M H H' := fun b u _ h => a b u h
theorem Sx.of_but {M : Addr → Prop} {d : Addr} {H H' : Hp} (a : But d H H') (m : M d) : Sx M H H' := fun b u n h => by
  rw [a b (fun e => n (e ▸ m))]
  exact h
theorem Sx.mono {M N : Addr → Prop} {H H' : Hp} (a : Sx M H H') (h : ∀ b, M b → N b) : Sx N H H' := fun b u n e => a b u (fun m => n (h b m)) e
theorem Sx.upd_in {M : Addr → Prop} {H H' : Hp} {p : Addr} {o : HO} (a : Sx M H H') (m : M p) : Sx M H (upd H' p o) := fun b u n e => by
  have z : b ≠ p := fun z => n (by rw [z]; exact m)
  rw [upd_ne z]
  exact a b u n e
/-- what was not tracked ahead may be written -/
theorem Sx.upd_new {M : Addr → Prop} {H H' : Hp} {p : Addr} {o : HO} (a : Sx M H H') (h : H p = none) : Sx M H (upd H' p o) := fun b u n e => by
  rw [upd_ne (ne_of_none e h)]
  exact a b u n e
theorem Same.upd_new {H H' : Hp} {p : Addr} {o : HO} (a : Same H H') (h : H p = none) : Same H (upd H' p o) := fun b u e => by
  rw [upd_ne (ne_of_none e h)]
  exact a b u e
theorem but_none {d : Addr} {H H' : Hp} (a : But d H H') {p : Addr} (h : H' p = none) (hd : ∃ u, H' d = some u) : H p = none := by
  by_cases e : p = d
  · subst e
    obtain ⟨u, q⟩ := hd
    rw [q] at h
    cases h
  · rw [← a p e]
    exact h
theorem sz {n : Nat} (h : n ≤ 100000) : n ≤ sizeLine := Nat.le_trans h (by decide)
theorem szl {n : Nat} (h : n < 100000) : n < sizeLine := Nat.lt_of_lt_of_le h (by decide)

/-! ### texts -/
abbrev S (l : List Nat) : Str := ⟨l.toArray⟩
abbrev tl (x : Str) : List Nat := x.cps.toList
theorem S_tl (x : Str) : S (tl x) = x := by cases x; rfl
theorem len_tl (x : Str) : x.length = (tl x).length := by simp [Str.length, tl]
theorem len_S (l : List Nat) : (S l).length = l.length := by simp [Str.length, S]
theorem tl_S (l : List Nat) : tl (S l) = l := rfl

/-! ### the drawing -/
/-- the drawing's own list at d: the script's copy at L, a place, a rest, a seed -/
def Dr (H : Hp) (d L : Addr) : Prop := ∃ (ns : List Int) (i r s : Int), H d = some (.lst [.ref L, .int i, .int r, .int s]) ∧ H L = some (.lst (ns.map V.int)) ∧ 0 ≤ i ∧ 0 ≤ r ∧ 0 ≤ s ∧ s < 2147483647
theorem Dr.ne {H : Hp} {d L : Addr} (h : Dr H d L) : L ≠ d := by
  obtain ⟨ns, i, r, s, hd, hL, _⟩ := h
  refine ne_of hL hd fun z => ?_
  have z2 := HO.lst.inj z
  cases ns with
  | nil => cases z2
  | cons n r =>
    have z3 := (List.cons.inj z2).1
    cases z3
theorem Dr.some {H : Hp} {d L : Addr} (h : Dr H d L) : ∃ u, H d = some u := by
  obtain ⟨ns, i, r, s, hd, _⟩ := h
  exact ⟨_, hd⟩
theorem Dr.someL {H : Hp} {d L : Addr} (h : Dr H d L) : ∃ u, H L = Option.some u := by
  obtain ⟨ns, i, r, s, hd, hL, _⟩ := h
  exact ⟨_, hL⟩
theorem Dr.same {H H' : Hp} {d L : Addr} (h : Dr H d L) (a : Same H H') : Dr H' d L := by
  obtain ⟨ns, i, r, s, hd, hL, q⟩ := h
  exact ⟨ns, i, r, s, a _ _ hd, a _ _ hL, q⟩
theorem Dr.at {H H' : Hp} {d L : Addr} (h : Dr H d L) (a : H' d = H d) (b : H' L = H L) : Dr H' d L := by
  obtain ⟨ns, i, r, s, hd, hL, q⟩ := h
  exact ⟨ns, i, r, s, a.trans hd, b.trans hL, q⟩
theorem Dr.upd {H : Hp} {d L p : Addr} {o : HO} (h : Dr H d L) (n1 : p ≠ d) (n2 : p ≠ L) : Dr (upd H p o) d L := h.at (upd_ne n1.symm) (upd_ne n2.symm)
theorem Dr.new {H : Hp} {d L p : Addr} {o : HO} (h : Dr H d L) (n : H p = none) : Dr (L2.upd H p o) d L := h.same (same_new n)
theorem Dr.neNew {H : Hp} {d L p : Addr} (h : Dr H d L) (n : H p = none) : p ≠ d ∧ p ≠ L := by
  obtain ⟨u, q⟩ := h.some
  obtain ⟨u2, q2⟩ := h.someL
  exact ⟨(ne_of_none q n).symm, (ne_of_none q2 n).symm⟩
theorem dr_set {H : Hp} {d L : Addr} {ns : List Int} {i r s : Int} (hL : H L = some (.lst (ns.map V.int))) (ne : L ≠ d) (h1 : 0 ≤ i) (h2 : 0 ≤ r) (h3 : 0 ≤ s) (h4 : s < 2147483647) :
    Dr (upd H d (.lst [.ref L, .int i, .int r, .int s])) d L := ⟨ns, i, r, s, upd_same, by rw [upd_ne ne]; exact hL, h1, h2, h3, h4⟩
/-- _law_take(draw, sides) -/
def spTake : Sp := fun vs H Q _ => ∃ (d L : Addr) (k : Int), vs = [.ref d, .int k] ∧ Dr H d L ∧ 1 ≤ k ∧ k < 1073741824 ∧
  ∀ (g : Int) (H' : Hp), 0 ≤ g → g < k → Dr H' d L → But d H H' → Q (.int g) H'
/-- _law_begin(script) -/
def spBegin (K : PySem.W.Frag) : Sp := fun vs H Q _ => ∃ (a : Addr) (ns : List Int), vs = [.ref a] ∧ SqL K H a (ns.map V.int) ∧
  ∀ (d L : Addr) (H' : Hp), Same H H' → H d = none → H L = none → Dr H' d L → Q (.ref d) H'
/-- _law_pick(draw, row), row a text | a list of texts -/
def spPick (K : PySem.W.Frag) : Sp := fun vs H Q _ => ∃ (d L : Addr) (x : V) (n : Nat), vs = [.ref d, x] ∧ Dr H d L ∧ 0 < n ∧ n < 100000 ∧
  ((∃ z : Str, x = .str z ∧ z.length = n ∧ ∀ (c : Nat) (H' : Hp), c ∈ tl z → Dr H' d L → But d H H' → Q (.str ⟨#[c]⟩) H') ∨
   (∃ (a : Addr) (xs : List V), x = .ref a ∧ a ≠ d ∧ SqL K H a xs ∧ xs.length = n ∧ ∀ (y : V) (H' : Hp), y ∈ xs → Dr H' d L → But d H H' → Q y H'))
/-- what a SqL tells stays where its place is not written -/
theorem SqL.but {K : PySem.W.Frag} {H H' : Hp} {d a : Addr} {xs : List V} (h : SqL K H a xs) (b : But d H H') (n : a ≠ d) : SqL K H' a xs := by
  rcases h with (h | ⟨o, h⟩) | h
  · exact .inl (.inl (by rw [b a n]; exact h))
  · exact .inl (.inr ⟨o, by rw [b a n]; exact h⟩)
  · exact .inr h
theorem SqL.sx {K : PySem.W.Frag} {M : Addr → Prop} {H H' : Hp} {a : Addr} {xs : List V} (h : SqL K H a xs) (b : Sx M H H') (n : ¬ M a) : SqL K H' a xs := by
  rcases h with (h | ⟨o, h⟩) | h
  · exact .inl (.inl (b _ _ n h))
  · exact .inl (.inr ⟨o, b _ _ n h⟩)
  · exact .inr h

theorem mod_lt {a k : Int} (h : 1 ≤ k) : 0 ≤ a % k ∧ a % k < k := ⟨Int.emod_nonneg _ (by omega), Int.emod_lt_of_pos _ (by omega)⟩
theorem atI_lt {α : Type} {xs : List α} {g : Int} (h0 : 0 ≤ g) (h1 : g < (xs.length : Int)) : ∃ v, atI xs g = some v ∧ v ∈ xs := by
  have hk : g.toNat < xs.length := by omega
  have e : g = ((g.toNat : Nat) : Int) := by omega
  refine ⟨xs[g.toNat], ?_, List.getElem_mem hk⟩
  have q : atI xs ((g.toNat : Nat) : Int) = some xs[g.toNat] := atI_nat (List.getElem?_eq_getElem hk)
  rw [← e] at q
  exact q
theorem cut_len (xs : List V) (lo hi : Option Int) : (cutV xs lo hi).length ≤ xs.length := cutV_length xs lo hi
theorem cut_map (ns : List Int) (lo hi : Option Int) : ∃ ms : List Int, cutV (ns.map V.int) lo hi = ms.map V.int := by
  refine ⟨(ns.drop (HT.sIx ns.length 0 lo)).take (HT.sIx ns.length ns.length hi - HT.sIx ns.length 0 lo), ?_⟩
  unfold cutV
  rw [List.length_map, List.map_take, List.map_drop]
/-! ### a comprehension over a text's signs, its element of a plain value -/
theorem lc_str_val {z : Str} {g : TG} {te : TE} {vs : List Nat} {σ : L2.St} {H1 : Hp} {D : Addr} {Qd : Hp → Prop} (f : Nat → V) (i0 : Nat) (hg : g = gName i0) (hw : ∀ v, wipe ((wipe σ vs).set i0 v) vs = wipe σ vs) (hz : z.length < 100000) (hD : H1 D = none)
    (he : ∀ c ∈ tl z, ∀ (H2 : Hp) (Q : VK), Same H1 H2 → Q (f c) H2 → te ((wipe σ vs).set i0 (some (.str ⟨#[c]⟩))) H2 Q)
    (hd : ∀ H', Same H1 H' → H' D = some (.lst ((tl z).map f)) → Qd H') :
    ∃ W : Nat → Nat → Hp → Prop, (∃ m, W 0 m (upd H1 D (.lst []))) ∧ ∀ i m H, W i m H →
      ((Its z).stop i H ∧ Qd H) ∨ ((Its z).go i H ∧ ∃ Nx : Hp → Prop, (∀ H', Nx H' → ∃ m', m' < m ∧ W (i + 1) m' H') ∧ ∀ x H', (Its z).yld i H x H' → g x (wipe σ vs) H' fun σ2 H2 => wipe σ2 vs = wipe σ vs ∧ tYes σ2 H2 fun b H3 =>
        if b = true then te σ2 H3 fun y H4 => ∃ acc, H4 D = some (.lst acc) ∧ acc.length < sizeLine ∧ Nx (upd H4 D (.lst (acc ++ [y]))) else Nx H3) := by
  subst hg
  have el : z.cps.size = (tl z).length := by simp [tl]
  refine lc_it walk_str (fun i H' => Same H1 H' ∧ H' D = some (.lst (((tl z).take i).map f))) ⟨same_new hD, by rw [upd_same]; rfl⟩ (fun _ _ _ _ => trivial) (fun i x H H' hi hP hY => ?_) (fun H' hP => ?_)
  · obtain ⟨rfl, c, hc, rfl⟩ := hY
    obtain ⟨sm, hl⟩ := hP
    have hc2 : (tl z)[i]? = some c := by
      have q : z.cps.toList[i]? = z.cps[i]? := by simp
      exact q.trans hc
    refine ⟨hw _, ?_⟩
    dsimp only [tYes]
    rw [if_pos rfl]
    refine he c (List.mem_of_getElem? hc2) _ _ sm ?_
    refine ⟨_, hl, ?_, ?_, ?_⟩
    · rw [List.length_map, List.length_take]
      have := len_tl z
      exact szl (by omega)
    · exact Same.upd_new sm hD
    · rw [upd_same, List.take_add_one, hc2, List.map_append]
      rfl
  · obtain ⟨sm, hl⟩ := hP
    refine hd H' sm ?_
    rw [el, List.take_length] at hl
    exact hl
theorem yes_go {σ : L2.St} {H : Hp} {A B : Hp → Prop} (h : A H) : tYes σ H (fun b H3 => if b = true then A H3 else B H3) := h
theorem len_app (a b : Str) : (a ++ b).length = a.length + b.length := PySem.Str.length_append a b
theorem join1_len : ∀ cs : List Nat, (TL.joinL [] (cs.map fun c => [c])) = cs
  | [] => rfl
  | [c] => rfl
  | c :: e :: r => by
    have ih := join1_len (e :: r)
    show [c] ++ ([] ++ TL.joinL [] ((e :: r).map fun c => [c])) = c :: e :: r
    rw [ih]
    rfl
/-- ''.join of signs -/
theorem join_signs (cs : List Nat) : Txt.join "" (cs.map fun c => S [c]) = S cs := by
  have e := SX.join_S [] (cs.map fun c => [c])
  rw [join1_len, List.map_map] at e
  exact e
theorem sum_ones : ∀ cs : List Nat, ((cs.map fun c => S [c]).map (·.length)).sum = cs.length
  | [] => rfl
  | c :: r => by
    rw [List.map_cons, List.map_cons, List.sum_cons, sum_ones r, len_S, List.length_cons, List.length_cons]
    simp
    omega
theorem cutS_len (z : Str) (lo hi : Option Int) : (cutS z lo hi).length ≤ z.length := by
  unfold cutS
  rw [len_S, List.length_take, List.length_drop]
  have := len_tl z
  unfold tl at this
  omega
/-! ### rules with the written part by its name, for a comprehension's block -/
section
variable {X : Cx} {K : PySem.W.Frag}
theorem ix_listK (h : X.K = K) : IxR X (rIxL K) := h ▸ ix_list
theorem ix_tupK (h : X.K = K) : IxR X (rIxT K) := h ▸ ix_tup
theorem ix_seqK (h : X.K = K) : IxR X (rIx K) := h ▸ ix_seq
theorem op_in_seqK (h : X.K = K) : OpR X (compareOp .In) (rIn K false) := h ▸ op_in_seq
theorem op_notIn_seqK (h : X.K = K) : OpR X (compareOp .NotIn) (rIn K true) := h ▸ op_notIn_seq
theorem op_eqDK (h : X.K = K) (hu : X.A.units + 64 < cLine) : OpR X (compareOp .Eq) (rEqD K) := h ▸ op_eqD hu
theorem op_neDK (h : X.K = K) (hu : X.A.units + 64 < cLine) : OpR X (compareOp .NotEq) (rNeD K) := h ▸ op_neD hu
theorem sl_listK (h : X.K = K) : SlR X (rSlL K) := h ▸ sl_list
theorem call_len_seqK (h : X.K = K) : CallR X (.builtin "len") (fun xs H Q => ∃ p ys, xs = [.ref p] ∧ (SqL K H p ys ∨ SqT K H p ys) ∧ Q (.int ys.length) H) := by
  subst h
  exact call_len_seq
end
end OG

set_option Elab.async false
set_option linter.all false
set_option maxRecDepth 100000
set_option maxHeartbeats 4000000
namespace OG
open PySem PySem.Spec PyProof.Rows L2
/-! ### text * number -/
def rRepS : R2 := fun x y H Q => ∃ (z : Str) (k : Int), x = .str z ∧ y = .int k ∧ -(2 ^ 62) ≤ k ∧ k < 2 ^ 62 ∧ z.length * k.toNat ≤ 100000 ∧ Q (.str (S (List.replicate k.toNat (tl z)).flatten)) H
theorem fold_rep (a : Array Nat) : ∀ (k : Nat) (acc : Array Nat), (List.foldl (fun x y => x ++ y) acc (List.replicate k a)) = acc ++ (List.replicate k a.toList).flatten.toArray
  | 0, acc => by simp
  | k + 1, acc => by
    rw [List.replicate_succ, List.foldl_cons, fold_rep a k (acc ++ a), List.replicate_succ, List.flatten_cons, Array.append_assoc]
    congr 1
    apply Array.ext'
    simp
theorem op_repS {X : Cx} : OpR X (binaryOp .Mult) rRepS := by
  intro pins s σ H x y v u Q I rx ry h
  obtain ⟨z, k, rfl, rfl, h1, h2, hz, q⟩ := h
  obtain ⟨t, rfl⟩ := rx
  obtain ⟨t', rfl⟩ := ry
  refine PySem.P.mul_str ?_ (fun a b => ?_) (fun a b => ?_) ?_
  · rw [decide_eq_false (by omega), decide_eq_false (by omega)]; rfl
  · have hk : 0 < k := by omega
    have e : ((z.length * k.toNat : Nat) : Int) ≤ 100000 := Int.ofNat_le.mpr hz
    have e2 : ((z.length * k.toNat : Nat) : Int) = (z.length : Int) * k := by
      rw [Int.natCast_mul, Int.toNat_of_nonneg (by omega)]
    intro hc
    have h3 : (z.length : Int) ≤ (2 ^ 63 - 1) / k := by
      rw [Int.le_ediv_iff_mul_le hk]
      rw [← e2]
      omega
    omega
  · unfold PySem.Builtin.Str.tooLong
    exact decide_eq_false (Nat.not_lt.mpr (sz hz))
  · by_cases c1 : k < 1
    · rw [if_pos c1]
      have e : k.toNat = 0 := by omega
      rw [e] at q
      exact ⟨by decide, .str Str.empty, H, I.tok _, ⟨_, rfl⟩, q⟩
    · rw [if_neg c1]
      by_cases c2 : (k == 1 || z.length == 0) = true
      · rw [if_pos c2]
        have e : S (List.replicate k.toNat (tl z)).flatten = z := by
          rcases Bool.or_eq_true_iff.mp c2 with c3 | c3
          · have e1 : k = 1 := by simpa using c3
            rw [e1]
            show S ((tl z) ++ []) = z
            rw [List.append_nil, S_tl]
          · have e1 : z.length = 0 := by simpa using c3
            have e2 : tl z = [] := List.eq_nil_of_length_eq_zero (by rw [← len_tl]; exact e1)
            have e3 : ∀ n : Nat, (List.replicate n ([] : List Nat)).flatten = [] := fun n => by
              induction n with
              | zero => rfl
              | succ n ih => rw [List.replicate_succ, List.flatten_cons, ih]; rfl
            rw [e2, e3, ← e2, S_tl]
        rw [e] at q
        exact ⟨.str z, H, I, ⟨_, rfl⟩, q⟩
      · rw [if_neg c2]
        have e : (⟨(List.replicate k.toNat z.cps).foldl (· ++ ·) #[]⟩ : Str) = S (List.replicate k.toNat (tl z)).flatten := by
          have := fold_rep z.cps k.toNat #[]
          rw [this]
          simp [S, tl]
        rw [e]
        refine ⟨?_, .str _, H, I.tok _, ⟨_, rfl⟩, q⟩
        have : (S (List.replicate k.toNat (tl z)).flatten).length ≤ 100000 := by
          rw [len_S, List.length_flatten]
          rw [List.map_replicate, List.sum_replicate_nat, Nat.mul_comm]
          rw [← len_tl]
          exact hz
        first
          | exact sz this
          | (unfold PySem.Builtin.Str.tooLong; exact decide_eq_false (Nat.not_lt.mpr (sz this)))
          | (show _ = _; unfold PySem.Builtin.Str.tooLong; exact decide_eq_false (Nat.not_lt.mpr (sz this)))
end OG

set_option Elab.async false
set_option linter.all false
set_option maxRecDepth 100000
set_option maxHeartbeats 4000000
namespace OG
open PySem PySem.Spec PyProof.Rows L2

/-! ### data of tuples -/
inductive D where
  | non
  | bl (b : Bool)
  | int (n : Int)
  | str (z : Str)
  | tup (xs : List D)
mutual
/-- v stands for the datum -/
def Rp (H : Hp) : V → D → Prop
  | v, .non => v = .non
  | v, .bl b => v = .bl b
  | v, .int n => v = .int n
  | v, .str z => v = .str z
  | v, .tup xs => ∃ (a : Addr) (vs : List V), v = .ref a ∧ H a = some (.tup vs) ∧ RpL H vs xs
def RpL (H : Hp) : List V → List D → Prop
  | vs, [] => vs = []
  | vs, x :: xs => ∃ (v : V) (r : List V), vs = v :: r ∧ Rp H v x ∧ RpL H r xs
end
/-- tuples stay -/
def Imm (H H' : Hp) : Prop := ∀ b xs, H b = some (.tup xs) → H' b = some (.tup xs)
theorem Imm.refl (H : Hp) : Imm H H := fun _ _ h => h
theorem Imm.trans {H H1 H2 : Hp} (a : Imm H H1) (b : Imm H1 H2) : Imm H H2 := fun c xs h => b c xs (a c xs h)
theorem Imm.same {H H' : Hp} (a : Same H H') : Imm H H' := fun b xs h => a b _ h
theorem Imm.upd {H H' : Hp} {p : Addr} {o : HO} (a : Imm H H') (n : ∀ xs, H p ≠ some (.tup xs)) : Imm H (upd H' p o) := fun b xs h => by
  have e : b ≠ p := fun z => n xs (by rw [← z]; exact h)
  rw [upd_ne e]
  exact a b xs h
theorem Imm.but {H H' : Hp} {d : Addr} {l : List V} (a : But d H H') (h : H d = some (.lst l)) : Imm H H' := fun b xs e => by
  have n : b ≠ d := fun z => by
    rw [z, h] at e
    cases e
  rw [a b n]
  exact e
theorem Dr.imm {H H' : Hp} {d L : Addr} (h : Dr H d L) (a : But d H H') : Imm H H' := by
  obtain ⟨ns, i, r, s, hd, _⟩ := h
  exact Imm.but a hd
mutual
theorem Rp.imm {H H' : Hp} (m : Imm H H') : ∀ (x : D) (v : V), Rp H v x → Rp H' v x
  | .non, _, h => h
  | .bl _, _, h => h
  | .int _, _, h => h
  | .str _, _, h => h
  | .tup xs, _, h => by
    obtain ⟨a, vs, e, q, r⟩ := h
    exact ⟨a, vs, e, m _ _ q, RpL.imm m xs vs r⟩
theorem RpL.imm {H H' : Hp} (m : Imm H H') : ∀ (xs : List D) (vs : List V), RpL H vs xs → RpL H' vs xs
  | [], _, h => h
  | x :: xs, _, h => by
    obtain ⟨v, r, e, q, t⟩ := h
    exact ⟨v, r, e, Rp.imm m x v q, RpL.imm m xs r t⟩
end
theorem Rp.to {H H' : Hp} {x : D} {v : V} (h : Rp H v x) (m : Imm H H') : Rp H' v x := Rp.imm m x v h
theorem RpL.to {H H' : Hp} {xs : List D} {vs : List V} (h : RpL H vs xs) (m : Imm H H') : RpL H' vs xs := RpL.imm m xs vs h
theorem RpL.length {H : Hp} : ∀ {xs : List D} {vs : List V}, RpL H vs xs → vs.length = xs.length
  | [], _, h => by rw [show _ = [] from h]; rfl
  | x :: xs, _, h => by
    obtain ⟨v, r, e, _, t⟩ := h
    rw [e, List.length_cons, List.length_cons, RpL.length t]
theorem RpL.get {H : Hp} : ∀ {xs : List D} {vs : List V} {i : Nat} {v : V}, RpL H vs xs → vs[i]? = some v → ∃ x, xs[i]? = some x ∧ Rp H v x
  | [], _, i, v, h, g => by
    rw [show _ = [] from h] at g
    simp at g
  | x :: xs, _, 0, v, h, g => by
    obtain ⟨u, r, e, q, t⟩ := h
    rw [e] at g
    have : u = v := Option.some.inj g
    exact ⟨x, rfl, this ▸ q⟩
  | x :: xs, _, i + 1, v, h, g => by
    obtain ⟨u, r, e, q, t⟩ := h
    rw [e] at g
    exact RpL.get (xs := xs) (i := i) t g
theorem RpL.append {H : Hp} : ∀ {xs ys : List D} {vs ws : List V}, RpL H vs xs → RpL H ws ys → RpL H (vs ++ ws) (xs ++ ys)
  | [], _, _, _, h, k => by rw [show _ = [] from h]; exact k
  | x :: xs, ys, _, ws, h, k => by
    obtain ⟨u, r, e, q, t⟩ := h
    rw [e]
    exact ⟨u, r ++ ws, rfl, q, RpL.append t k⟩
theorem RpL.take {H : Hp} : ∀ {xs : List D} {vs : List V} (n : Nat), RpL H vs xs → RpL H (vs.take n) (xs.take n)
  | _, _, 0, _ => rfl
  | [], _, n + 1, h => by rw [show _ = [] from h]; rfl
  | x :: xs, _, n + 1, h => by
    obtain ⟨u, r, e, q, t⟩ := h
    rw [e]
    exact ⟨u, r.take n, rfl, q, RpL.take n t⟩
theorem RpL.drop {H : Hp} : ∀ {xs : List D} {vs : List V} (n : Nat), RpL H vs xs → RpL H (vs.drop n) (xs.drop n)
  | _, _, 0, h => h
  | [], _, n + 1, h => by rw [show _ = [] from h]; rfl
  | x :: xs, _, n + 1, h => by
    obtain ⟨u, r, e, q, t⟩ := h
    rw [e]
    exact RpL.drop n t
theorem rpl_nil {H : Hp} : RpL H [] [] := rfl
theorem rpl_cons {H : Hp} {v : V} {vs : List V} {x : D} {xs : List D} (h : Rp H v x) (t : RpL H vs xs) : RpL H (v :: vs) (x :: xs) := ⟨v, vs, rfl, h, t⟩
theorem rp_tup {H : Hp} {a : Addr} {vs : List V} {xs : List D} (h : H a = some (.tup vs)) (t : RpL H vs xs) : Rp H (.ref a) (.tup xs) := ⟨a, vs, rfl, h, t⟩
theorem rp_t2 {H : Hp} {v : V} {x y : D} (h : Rp H v (.tup [x, y])) : ∃ a v1 v2, v = .ref a ∧ H a = some (.tup [v1, v2]) ∧ Rp H v1 x ∧ Rp H v2 y := by
  obtain ⟨a, vs, e, q, v1, r1, rfl, h1, v2, r2, rfl, h2, rfl⟩ := h
  exact ⟨a, v1, v2, e, q, h1, h2⟩
theorem rp_t3 {H : Hp} {v : V} {x y z : D} (h : Rp H v (.tup [x, y, z])) : ∃ a v1 v2 v3, v = .ref a ∧ H a = some (.tup [v1, v2, v3]) ∧ Rp H v1 x ∧ Rp H v2 y ∧ Rp H v3 z := by
  obtain ⟨a, vs, e, q, v1, r1, rfl, h1, v2, r2, rfl, h2, v3, r3, rfl, h3, rfl⟩ := h
  exact ⟨a, v1, v2, v3, e, q, h1, h2, h3⟩
theorem rp_t5 {H : Hp} {v : V} {x y z u w : D} (h : Rp H v (.tup [x, y, z, u, w])) : ∃ a v1 v2 v3 v4 v5, v = .ref a ∧ H a = some (.tup [v1, v2, v3, v4, v5]) ∧ Rp H v1 x ∧ Rp H v2 y ∧ Rp H v3 z ∧ Rp H v4 u ∧ Rp H v5 w := by
  obtain ⟨a, vs, e, q, v1, r1, rfl, h1, v2, r2, rfl, h2, v3, r3, rfl, h3, v4, r4, rfl, h4, v5, r5, rfl, h5, rfl⟩ := h
  exact ⟨a, v1, v2, v3, v4, v5, e, q, h1, h2, h3, h4, h5⟩

/-! ### names -/
def kept : List Str := ["step", "for", "from", "to", "if", "else", "double", "call", "with", "again", "on", "halves", "thirds", "less", "n"]
theorem kept_split : (Txt.split "step for from to if else double call with again on halves thirds less n" " ") = kept := by decide +kernel
def spKept : Sp := fun vs H Q _ => vs = [] ∧ ∀ (p : Addr) (H' : Hp), H p = none → H' = upd H p (.lst (kept.map V.str)) → Q (.ref p) H'
def abc : List Nat := tl "abcdefghijklmnopqrstuvwxyz"
/-- whether a text is a name -/
def nameB (z : Str) : Bool := (!inV (.str z) (kept.map V.str) && (decide ((1 : Int) ≤ (z.length : Int)) && decide ((z.length : Int) ≤ 8))) && ((tl z).map (fun c => decide (c ∈ tl "abcdefghijklmnopqrstuvwxyz"))).all id
def spName : Sp := fun vs H Q _ => ∃ z : Str, vs = [.str z] ∧ z.length < 100000 ∧ ∀ H', Same H H' → Q (.bl (nameB z)) H'
theorem inV_str (z : Str) : ∀ ys : List Str, inV (.str z) (ys.map V.str) = decide (z ∈ ys)
  | [] => rfl
  | y :: r => by
    have ih := inV_str z r
    unfold inV at ih ⊢
    rw [List.map_cons, List.any_cons, ih]
    show ((y == z) || decide (z ∈ r)) = decide (z ∈ y :: r)
    by_cases h : y = z
    · subst h
      simp
    · have h2 : (y == z) = false := by simpa using h
      have h3 : ¬ z = y := fun e => h e.symm
      rw [h2, Bool.false_or]
      by_cases h4 : z ∈ r
      · rw [decide_eq_true h4, decide_eq_true (List.mem_cons_of_mem _ h4)]
      · rw [decide_eq_false h4, decide_eq_false (fun h5 => (List.mem_cons.mp h5).elim h3 h4)]
theorem name_of {cs : List Nat} (h0 : 1 ≤ cs.length) (h8 : cs.length ≤ 8) (hk : S cs ∉ kept) (hc : ∀ c ∈ cs, c ∈ abc) : nameB (S cs) = true := by
  unfold nameB
  rw [inV_str, decide_eq_false hk, len_S]
  rw [decide_eq_true (by omega), decide_eq_true (by omega)]
  have : ((tl (S cs)).map (fun c => decide (c ∈ tl "abcdefghijklmnopqrstuvwxyz"))).all id = true := by
    rw [List.all_eq_true]
    intro b hb
    obtain ⟨c, hc2, rfl⟩ := List.mem_map.mp hb
    exact decide_eq_true (hc c hc2)
  rw [this]
  rfl
theorem name_len {z : Str} (h : nameB z = true) : 1 ≤ z.length ∧ z.length ≤ 8 := by
  unfold nameB at h
  simp only [Bool.and_eq_true, decide_eq_true_eq] at h
  omega
theorem name_abc {z : Str} (h : nameB z = true) : ∀ c ∈ tl z, c ∈ abc := by
  unfold nameB at h
  have h2 := (Bool.and_eq_true_iff.mp h).2
  rw [List.all_eq_true] at h2
  intro c hc
  exact of_decide_eq_true (h2 _ (List.mem_map.mpr ⟨c, hc, rfl⟩))
theorem name_kept {z : Str} (h : nameB z = true) : z ∉ kept := by
  unfold nameB at h
  rw [inV_str] at h
  intro hk
  rw [decide_eq_true hk] at h
  cases h
theorem name_two : ∀ c ∈ abc, nameB (S [c, c]) = true := by
  have h : abc.all (fun c => nameB (S [c, c])) = true := by decide +kernel
  exact fun c hc => List.all_eq_true.mp h c hc

/-! ### plans -/
inductive Thing where
  | step (k : Int)
  | loop (x : Str) (a b : Str × Int) (body : List Thing)
  | test (a b : Str × Int) (x y : List Thing)
  | twice (body : List Thing)
  | call (x : Str) (e : Str × Int)
  | again (k : Int) (w : Str)
def encE (e : Str × Int) : D := .tup [.str e.1, .int e.2]
mutual
def enc : Thing → D
  | .step k => .tup [.str "step", .int k]
  | .loop x a b body => .tup [.str "for", .str x, encE a, encE b, .tup (encs body)]
  | .test a b x y => .tup [.str "if", encE a, encE b, .tup (encs x), .tup (encs y)]
  | .twice b => .tup [.str "double", .tup (encs b)]
  | .call x e => .tup [.str "call", .str x, encE e]
  | .again k w => .tup [.str "again", .int k, .str w]
def encs : List Thing → List D
  | [] => []
  | t :: r => enc t :: encs r
end
theorem encs_map : ∀ ts : List Thing, encs ts = ts.map enc
  | [] => rfl
  | t :: r => by
    show enc t :: encs r = enc t :: r.map enc
    rw [encs_map r]
theorem encs_append (a b : List Thing) : encs (a ++ b) = encs a ++ encs b := by rw [encs_map, encs_map, encs_map, List.map_append]
theorem encs_length (ts : List Thing) : (encs ts).length = ts.length := by rw [encs_map, List.length_map]
/-- an end that may stand where the names sc may -/
def EndOk (sc : List Str) (e : Str × Int) : Prop := (e.1 = "" ∧ 0 ≤ e.2 ∧ e.2 ≤ 99) ∨ (e.1 ∈ sc ∧ -99 ≤ e.2 ∧ e.2 ≤ 99)
def ScOk (sc : List Str) : Prop := ∀ x ∈ sc, x = "n" ∨ nameB x = true
def AgOk (k : Int) (w : Str) : Prop := 1 ≤ k ∧ k ≤ 9 ∧ (w = "halves" ∨ w = "thirds" ∨ w = "less")
mutual
/-- a thing with at most n brackets within one another, calling only what C tells; again only where A does -/
def TOk (C : Str → Prop) (A : Prop) : List Str → Nat → Thing → Prop
  | _, _, .step k => 0 ≤ k ∧ k ≤ 99
  | sc, n, .loop x a b body => nameB x = true ∧ x ∉ sc ∧ EndOk sc a ∧ EndOk sc b ∧ body ≠ [] ∧ ∃ m, n = m + 1 ∧ TsOk C A (sc ++ [x]) m body
  | sc, n, .test a b x y => EndOk sc a ∧ EndOk sc b ∧ x ≠ [] ∧ ∃ m, n = m + 1 ∧ TsOk C A sc m x ∧ TsOk C A sc m y
  | sc, n, .twice b => b ≠ [] ∧ ∃ m, n = m + 1 ∧ TsOk C A sc m b
  | sc, _, .call x e => nameB x = true ∧ C x ∧ EndOk sc e
  | _, _, .again k w => A ∧ AgOk k w
def TsOk (C : Str → Prop) (A : Prop) : List Str → Nat → List Thing → Prop
  | _, _, [] => True
  | sc, n, t :: r => TOk C A sc n t ∧ TsOk C A sc n r
end
theorem tsok_iff {C : Str → Prop} {A : Prop} {sc : List Str} {n : Nat} : ∀ ts : List Thing, TsOk C A sc n ts ↔ ∀ t ∈ ts, TOk C A sc n t
  | [] => ⟨fun _ _ h => (by cases h), fun _ => trivial⟩
  | t :: r => by
    show (TOk C A sc n t ∧ TsOk C A sc n r) ↔ _
    rw [tsok_iff r]
    constructor
    · rintro ⟨h1, h2⟩ u hu
      rcases List.mem_cons.mp hu with rfl | hu
      · exact h1
      · exact h2 u hu
    · intro h
      exact ⟨h t List.mem_cons_self, fun u hu => h u (List.mem_cons_of_mem _ hu)⟩
mutual
def cntT : Thing → Nat
  | .step _ => 1
  | .loop _ _ _ b => 1 + cntB b
  | .test _ _ x y => 1 + cntB x + cntB y
  | .twice b => 1 + cntB b
  | .call _ _ => 1
  | .again _ _ => 1
def cntB : List Thing → Nat
  | [] => 0
  | t :: r => cntT t + cntB r
end
theorem cntB_append : ∀ a b : List Thing, cntB (a ++ b) = cntB a + cntB b
  | [], b => by show cntB b = 0 + cntB b; omega
  | t :: r, b => by
    show cntT t + cntB (r ++ b) = cntT t + cntB r + cntB b
    rw [cntB_append r b]
    omega

/-! ### a plan's text -/
def numL (i : Int) : List Nat := tl (toString i)
def endL (e : Str × Int) : List Nat :=
  if e.1 = "" then numL e.2 else if e.2 = 0 then tl e.1 else if 0 < e.2 then tl e.1 ++ tl " + " ++ numL e.2 else tl e.1 ++ tl " - " ++ numL (-e.2)
mutual
def thingL : Thing → List Nat
  | .step k => tl "step " ++ numL k
  | .loop x a b body => tl "for " ++ tl x ++ tl " from " ++ endL a ++ tl " to " ++ endL b ++ tl " (" ++ TL.joinL (tl "; ") (thingsL body) ++ tl ")"
  | .test a b x y => tl "if " ++ endL a ++ tl " <= " ++ endL b ++ tl " (" ++ TL.joinL (tl "; ") (thingsL x) ++ tl ")" ++ (match y with
    | [] => []
    | t :: r => tl " else (" ++ TL.joinL (tl "; ") (thingsL (t :: r)) ++ tl ")")
  | .twice b => tl "double (" ++ TL.joinL (tl "; ") (thingsL b) ++ tl ")"
  | .call x e => tl "call " ++ tl x ++ tl " with " ++ endL e
  | .again k w => tl "again " ++ numL k ++ tl " on " ++ tl w
def thingsL : List Thing → List (List Nat)
  | [] => []
  | t :: r => thingL t :: thingsL r
end
def planL (ts : List Thing) : List Nat := TL.joinL (tl "; ") (thingsL ts)
theorem thingsL_map : ∀ ts : List Thing, thingsL ts = ts.map thingL
  | [] => rfl
  | t :: r => by
    show thingL t :: thingsL r = thingL t :: r.map thingL
    rw [thingsL_map r]
theorem str_ext {a b : Str} (h : tl a = tl b) : a = b := by rw [← S_tl a, ← S_tl b, h]
theorem tl_app (a b : Str) : tl (a ++ b) = tl a ++ tl b := TL.tl_append a b
theorem tl_empty : tl Str.empty = [] := rfl
/-! sizes -/
theorem num_small {i : Int} (h0 : -99 ≤ i) (h1 : i ≤ 99) : (numL i).length ≤ 3 ∧ i.natAbs.log2 < 1920 := by
  have e : ∀ n : Nat, n < 199 → (numL ((n : Int) - 99)).length ≤ 3 ∧ ((n : Int) - 99).natAbs.log2 < 1920 := by
    have h : (List.range 199).all (fun n => decide ((numL ((n : Int) - 99)).length ≤ 3) && decide (((n : Int) - 99).natAbs.log2 < 1920)) = true := by decide +kernel
    intro n hn
    have := List.all_eq_true.mp h n (List.mem_range.mpr hn)
    simpa only [Bool.and_eq_true, decide_eq_true_eq] using this
  have q := e (i + 99).toNat (by omega)
  have e2 : (((i + 99).toNat : Nat) : Int) - 99 = i := by omega
  rw [e2] at q
  exact q
theorem end_small {sc : List Str} {e : Str × Int} (hs : ScOk sc) (h : EndOk sc e) : (endL e).length ≤ 14 ∧ e.1.length ≤ 8 ∧ -99 ≤ e.2 ∧ e.2 ≤ 99 := by
  have hl : e.1.length ≤ 8 ∧ -99 ≤ e.2 ∧ e.2 ≤ 99 := by
    rcases h with ⟨h1, h2, h3⟩ | ⟨h1, h2, h3⟩
    · rw [h1]
      exact ⟨by decide +kernel, by omega, h3⟩
    · rcases hs _ h1 with h4 | h4
      · rw [h4]
        exact ⟨by decide +kernel, h2, h3⟩
      · exact ⟨(name_len h4).2, h2, h3⟩
  refine ⟨?_, hl⟩
  have n1 := (num_small hl.2.1 hl.2.2).1
  have n2 := (num_small (i := -e.2) (by omega) (by omega)).1
  have l1 := len_tl e.1
  have p1 : (tl " + ").length = 3 := by decide +kernel
  have p2 : (tl " - ").length = 3 := by decide +kernel
  unfold endL
  split
  · omega
  · split
    · omega
    · split
      · rw [List.length_append, List.length_append]
        omega
      · rw [List.length_append, List.length_append]
        omega
end OG

set_option Elab.async false
set_option linter.all false
set_option maxRecDepth 100000
set_option maxHeartbeats 4000000
namespace OG
open PySem PySem.Spec PyProof.Rows L2
/-! ### sizes of texts -/
theorem joinL_len (s : List Nat) : ∀ ls : List (List Nat), (TL.joinL s ls).length ≤ (ls.map (fun l => l.length + s.length)).sum
  | [] => Nat.le_refl _
  | [p] => by
    show p.length ≤ (p.length + s.length) + 0
    omega
  | p :: q :: r => by
    have ih := joinL_len s (q :: r)
    show (p ++ (s ++ TL.joinL s (q :: r))).length ≤ (p.length + s.length) + ((q :: r).map (fun l => l.length + s.length)).sum
    rw [List.length_append, List.length_append]
    omega
theorem scOk_snoc {sc : List Str} {x : Str} (h : ScOk sc) (n : nameB x = true) : ScOk (sc ++ [x]) := fun y hy => by
  rcases List.mem_append.mp hy with h1 | h1
  · exact h y h1
  · rw [List.mem_singleton.mp h1]
    exact .inr n
mutual
theorem thing_size {C : Str → Prop} {A : Prop} : ∀ (t : Thing) (sc : List Str) (n : Nat), TOk C A sc n t → ScOk sc → (thingL t).length + 2 ≤ 80 * cntT t
  | .step k, sc, n, h, hs => by
    have e := (num_small (i := k) (by have := h.1; omega) h.2).1
    have c : (tl "step ").length = 5 := by decide +kernel
    show (tl "step " ++ numL k).length + 2 ≤ 80 * 1
    rw [List.length_append]
    omega
  | .loop x a b body, sc, n, h, hs => by
    obtain ⟨h1, h2, h3, h4, h5, m, rfl, h6⟩ := h
    have hn := name_len h1
    have e1 := (end_small hs h3).1
    have e2 := (end_small hs h4).1
    have ih := things_size body _ _ h6 (scOk_snoc hs h1)
    have j := joinL_len (tl "; ") (thingsL body)
    have c0 : (tl "; ").length = 2 := by decide +kernel
    have c1 : (tl "for ").length = 4 := by decide +kernel
    have c2 : (tl " from ").length = 6 := by decide +kernel
    have c3 : (tl " to ").length = 4 := by decide +kernel
    have c4 : (tl " (").length = 2 := by decide +kernel
    have c5 : (tl ")").length = 1 := by decide +kernel
    have l := len_tl x
    rw [c0] at j
    show (tl "for " ++ tl x ++ tl " from " ++ endL a ++ tl " to " ++ endL b ++ tl " (" ++ TL.joinL (tl "; ") (thingsL body) ++ tl ")").length + 2 ≤ 80 * (1 + cntB body)
    simp only [List.length_append]
    omega
  | .test a b x y, sc, n, h, hs => by
    obtain ⟨h3, h4, h5, m, rfl, h6, h7⟩ := h
    have e1 := (end_small hs h3).1
    have e2 := (end_small hs h4).1
    have ih := things_size x _ _ h6 hs
    have j := joinL_len (tl "; ") (thingsL x)
    have ih2 := things_size y _ _ h7 hs
    have j2 := joinL_len (tl "; ") (thingsL y)
    have c0 : (tl "; ").length = 2 := by decide +kernel
    have c1 : (tl "if ").length = 3 := by decide +kernel
    have c2 : (tl " <= ").length = 4 := by decide +kernel
    have c4 : (tl " (").length = 2 := by decide +kernel
    have c5 : (tl ")").length = 1 := by decide +kernel
    have c6 : (tl " else (").length = 7 := by decide +kernel
    rw [c0] at j j2
    cases y with
    | nil =>
      show (tl "if " ++ endL a ++ tl " <= " ++ endL b ++ tl " (" ++ TL.joinL (tl "; ") (thingsL x) ++ tl ")" ++ []).length + 2 ≤ 80 * (1 + cntB x + 0)
      simp only [List.length_append, List.length_nil]
      omega
    | cons t r =>
      show (tl "if " ++ endL a ++ tl " <= " ++ endL b ++ tl " (" ++ TL.joinL (tl "; ") (thingsL x) ++ tl ")" ++ (tl " else (" ++ TL.joinL (tl "; ") (thingsL (t :: r)) ++ tl ")")).length + 2 ≤ 80 * (1 + cntB x + cntB (t :: r))
      simp only [List.length_append]
      omega
  | .twice b, sc, n, h, hs => by
    obtain ⟨h5, m, rfl, h6⟩ := h
    have ih := things_size b _ _ h6 hs
    have j := joinL_len (tl "; ") (thingsL b)
    have c0 : (tl "; ").length = 2 := by decide +kernel
    have c1 : (tl "double (").length = 8 := by decide +kernel
    have c5 : (tl ")").length = 1 := by decide +kernel
    rw [c0] at j
    show (tl "double (" ++ TL.joinL (tl "; ") (thingsL b) ++ tl ")").length + 2 ≤ 80 * (1 + cntB b)
    simp only [List.length_append]
    omega
  | .call x e, sc, n, h, hs => by
    have e1 := (end_small hs h.2.2).1
    have hn := name_len h.1
    have c1 : (tl "call ").length = 5 := by decide +kernel
    have c2 : (tl " with ").length = 6 := by decide +kernel
    have l := len_tl x
    show (tl "call " ++ tl x ++ tl " with " ++ endL e).length + 2 ≤ 80 * 1
    simp only [List.length_append]
    omega
  | .again k w, sc, n, h, hs => by
    obtain ⟨_, h1, h2, h3⟩ := h
    have e := (num_small (i := k) (by omega) (by omega)).1
    have c1 : (tl "again ").length = 6 := by decide +kernel
    have c2 : (tl " on ").length = 4 := by decide +kernel
    have c3 : (tl w).length ≤ 6 := by
      rcases h3 with rfl | rfl | rfl
      · decide +kernel
      · decide +kernel
      · decide +kernel
    show (tl "again " ++ numL k ++ tl " on " ++ tl w).length + 2 ≤ 80 * 1
    simp only [List.length_append]
    omega
theorem things_size {C : Str → Prop} {A : Prop} : ∀ (ts : List Thing) (sc : List Str) (n : Nat), TsOk C A sc n ts → ScOk sc → ((thingsL ts).map (fun l => l.length + 2)).sum ≤ 80 * cntB ts
  | [], _, _, _, _ => Nat.le_refl _
  | t :: r, sc, n, h, hs => by
    have h1 := thing_size t sc n h.1 hs
    have h2 := things_size r sc n h.2 hs
    show ((thingL t).length + 2) + ((thingsL r).map (fun l => l.length + 2)).sum ≤ 80 * (cntT t + cntB r)
    omega
end
theorem plan_size {C : Str → Prop} {A : Prop} {ts : List Thing} {sc : List Str} {n : Nat} (h : TsOk C A sc n ts) (hs : ScOk sc) : (planL ts).length ≤ 80 * cntB ts := by
  have j := joinL_len (tl "; ") (thingsL ts)
  have c0 : (tl "; ").length = 2 := by decide +kernel
  rw [c0] at j
  exact Nat.le_trans j (things_size ts sc n h hs)
theorem cnt_pos : ∀ t : Thing, 1 ≤ cntT t
  | .step _ => Nat.le_refl _
  | .loop _ _ _ b => Nat.le_add_right _ _
  | .test _ _ x y => by show 1 ≤ 1 + cntB x + cntB y; omega
  | .twice b => Nat.le_add_right _ _
  | .call _ _ => Nat.le_refl _
  | .again _ _ => Nat.le_refl _
theorem cnt_len : ∀ ts : List Thing, ts.length ≤ cntB ts
  | [] => Nat.le_refl _
  | t :: r => by
    have h1 := cnt_pos t
    have h2 := cnt_len r
    show r.length + 1 ≤ cntT t + cntB r
    omega
theorem cnt_mem {t : Thing} : ∀ {ts : List Thing}, t ∈ ts → cntT t ≤ cntB ts
  | [], h => by cases h
  | u :: r, h => by
    show cntT t ≤ cntT u + cntB r
    rcases List.mem_cons.mp h with rfl | h
    · omega
    · have := cnt_mem h
      omega
/-! ### a comprehension over a tuple, its element a call that leaves all as it was -/
theorem lc_tup_map {K : PySem.W.Frag} {a : Addr} {xs : List V} {g : TG} {te : TE} {vs : List Nat} {σ : L2.St} {H1 : Hp} {D : Addr} {Qd : Hp → Prop} (ys : List V) (i0 : Nat) (hg : g = gName i0) (hw : ∀ v, wipe ((wipe σ vs).set i0 v) vs = wipe σ vs)
    (hlen : ys.length = xs.length) (hz : xs.length < 100000) (hS : H1 a = some (.tup xs)) (hD : H1 D = none)
    (he : ∀ (i : Nat) (x y : V) (H2 : Hp) (Q : VK), xs[i]? = some x → ys[i]? = some y → Same H1 H2 → (∀ H3, Same H2 H3 → Q y H3) → te ((wipe σ vs).set i0 (some x)) H2 Q)
    (hd : ∀ H', Same H1 H' → H' D = some (.lst ys) → Qd H') :
    ∃ W : Nat → Nat → Hp → Prop, (∃ m, W 0 m (upd H1 D (.lst []))) ∧ ∀ i m H, W i m H →
      ((Itt K a).stop i H ∧ Qd H) ∨ ((Itt K a).go i H ∧ ∃ Nx : Hp → Prop, (∀ H', Nx H' → ∃ m', m' < m ∧ W (i + 1) m' H') ∧ ∀ x H', (Itt K a).yld i H x H' → g x (wipe σ vs) H' fun σ2 H2 => wipe σ2 vs = wipe σ vs ∧ tYes σ2 H2 fun b H3 =>
        if b = true then te σ2 H3 fun y H4 => ∃ acc, H4 D = some (.lst acc) ∧ acc.length < sizeLine ∧ Nx (upd H4 D (.lst (acc ++ [y]))) else Nx H3) := by
  subst hg
  refine lc_tup (xs := xs) (fun i H' => Same H1 H' ∧ H' D = some (.lst (ys.take i))) ⟨same_new hD, upd_same⟩ (fun i H' hi hP => SqT.of (hP.1 _ _ hS)) (fun i x H' hx hP => ?_) (fun H' hP => ?_)
  · obtain ⟨sm, hl⟩ := hP
    have hi : i < ys.length := by
      rw [hlen]
      obtain ⟨h, _⟩ := List.getElem?_eq_some_iff.mp hx
      exact h
    refine ⟨hw _, yes_go ?_⟩
    refine he i x ys[i] H' _ hx (List.getElem?_eq_getElem hi) sm fun H3 s3 => ?_
    refine ⟨ys.take i, s3 _ _ hl, ?_, Same.upd_new (sm.trans s3) hD, ?_⟩
    · rw [List.length_take]
      exact szl (by omega)
    · rw [upd_same, List.take_add_one, List.getElem?_eq_getElem hi]
      rfl
  · obtain ⟨sm, hl⟩ := hP
    rw [← hlen, List.take_length] at hl
    exact hd H' sm hl
/-! ### what the writers promise -/
def spEndText : Sp := fun vs H Q _ => ∃ (v : V) (e : Str × Int), vs = [v] ∧ Rp H v (encE e) ∧ e.1.length ≤ 100 ∧ -99 ≤ e.2 ∧ e.2 ≤ 99 ∧ ∀ H', Same H H' → Q (.str (S (endL e))) H'
def spThingText (n : Nat) : Sp := fun vs H Q _ => ∃ (v : V) (t : Thing) (C : Str → Prop) (A : Prop) (sc : List Str), vs = [v] ∧ Rp H v (enc t) ∧ TOk C A sc n t ∧ ScOk sc ∧ cntT t ≤ 1000 ∧ ∀ H', Same H H' → Q (.str (S (thingL t))) H'
def spPlanText (n : Nat) : Sp := fun vs H Q _ => ∃ (v : V) (ts : List Thing) (C : Str → Prop) (A : Prop) (sc : List Str), vs = [v] ∧ Rp H v (.tup (encs ts)) ∧ TsOk C A sc n ts ∧ ScOk sc ∧ cntB ts ≤ 1000 ∧ ∀ H', Same H H' → Q (.str (S (planL ts))) H'
/-- the same for the things of one kind -/
def spOne (kind : Thing → Prop) (n : Nat) : Sp := fun vs H Q _ => ∃ (v : V) (t : Thing) (C : Str → Prop) (A : Prop) (sc : List Str), vs = [v] ∧ kind t ∧ Rp H v (enc t) ∧ TOk C A sc n t ∧ ScOk sc ∧ cntT t ≤ 1000 ∧ ∀ H', Same H H' → Q (.str (S (thingL t))) H'
theorem endL_len {e : Str × Int} (h : e.1.length ≤ 100) (h1 : -99 ≤ e.2) (h2 : e.2 ≤ 99) : (endL e).length ≤ 110 := by
  have n1 := (num_small h1 h2).1
  have n2 := (num_small (i := -e.2) (by omega) (by omega)).1
  have l1 := len_tl e.1
  have p1 : (tl " + ").length = 3 := by decide +kernel
  have p2 : (tl " - ").length = 3 := by decide +kernel
  unfold endL
  split
  · omega
  · split
    · omega
    · split
      · rw [List.length_append, List.length_append]
        omega
      · rw [List.length_append, List.length_append]
        omega
/-! ### how a heap goes on: what M tells may be written, tuples stay -/
structure Go (M : Addr → Prop) (H H' : Hp) : Prop where
  sx : Sx M H H'
  im : Imm H H'
theorem Go.refl (M : Addr → Prop) (H : Hp) : Go M H H := ⟨Sx.refl M H, Imm.refl H⟩
theorem Go.trans {M : Addr → Prop} {H H1 H2 : Hp} (a : Go M H H1) (b : Go M H1 H2) : Go M H H2 := ⟨a.sx.trans b.sx, a.im.trans b.im⟩
theorem Go.same {M : Addr → Prop} {H H' : Hp} (a : Same H H') : Go M H H' := ⟨Sx.of_same a, Imm.same a⟩
theorem Go.new {M : Addr → Prop} {H H' : Hp} {p : Addr} {o : HO} (a : Go M H H') (h : H' p = none) : Go M H (upd H' p o) := a.trans (Go.same (same_new h))
theorem Go.mono {M N : Addr → Prop} {H H' : Hp} (a : Go M H H') (h : ∀ b, M b → N b) : Go N H H' := ⟨a.sx.mono h, a.im⟩
theorem Go.but {M : Addr → Prop} {H H' : Hp} {d L : Addr} (h : Dr H d L) (a : But d H H') (m : M d) : Go M H H' := ⟨Sx.of_but a m, h.imm a⟩
theorem Go.set {M : Addr → Prop} {H H' : Hp} {p : Addr} {o : HO} {l : List V} (a : Go M H H') (m : M p) (h : H' p = some (.lst l)) : Go M H (upd H' p o) :=
  ⟨a.sx.upd_in m, a.im.trans ((Imm.refl H').upd fun xs e => by rw [h] at e; cases e)⟩
theorem Go.own {M : Addr → Prop} {H H' : Hp} {p : Addr} {o : HO} (a : Go M H H') (h : H p = none) : Go M H (upd H' p o) :=
  ⟨a.sx.upd_new h, a.im.upd fun xs e => by rw [h] at e; cases e⟩
theorem Go.at {M : Addr → Prop} {H H' : Hp} {p : Addr} {o : HO} (a : Go M H H') (h : H p = some o) (n : ¬ M p) : H' p = some o := a.sx p o n h
/-- what is not tracked behind was not tracked ahead, where M's own are tracked behind -/
theorem Go.free {M : Addr → Prop} {H H' : Hp} {p : Addr} (a : Go M H H') (h : H' p = none) (n : ¬ M p) : H p = none := by
  cases q : H p with
  | none => rfl
  | some o =>
    rw [a.sx p o n q] at h
    cases h
theorem mem_ints2 {v : V} {a b : Int} (h : v ∈ [V.int a, .int b]) : ∃ m, v = .int m ∧ (m = a ∨ m = b) := by
  rcases List.mem_cons.mp h with rfl | h
  · exact ⟨a, rfl, .inl rfl⟩
  rcases List.mem_cons.mp h with rfl | h
  · exact ⟨b, rfl, .inr rfl⟩
  · cases h
theorem mem_ints3 {v : V} {a b c : Int} (h : v ∈ [V.int a, .int b, .int c]) : ∃ m, v = .int m ∧ (m = a ∨ m = b ∨ m = c) := by
  rcases List.mem_cons.mp h with rfl | h
  · exact ⟨a, rfl, .inl rfl⟩
  obtain ⟨m, e, q⟩ := mem_ints2 h
  exact ⟨m, e, .inr q⟩
theorem mem_ints {v : V} {ns : List Int} (h : v ∈ ns.map V.int) : ∃ m, v = .int m ∧ m ∈ ns := by
  obtain ⟨m, hm, e⟩ := List.mem_map.mp h
  exact ⟨m, e.symm, hm⟩
theorem mem_strs {v : V} {ns : List Str} (h : v ∈ ns.map V.str) : ∃ m, v = .str m ∧ m ∈ ns := by
  obtain ⟨m, hm, e⟩ := List.mem_map.mp h
  exact ⟨m, e.symm, hm⟩
/-! ### what the drawing promises -/
/-- the kit: room, the names that may be called (none), figures, wide -/
def Kt (H : Hp) (k kd : Addr) (r : Int) (fig wide : Bool) : Prop := H k = some (.lst [.int r, .ref kd, .bl fig, .bl wide]) ∧ H kd = some (.dK [])
def M2 (d k : Addr) : Addr → Prop := fun b => b = d ∨ b = k
/-- _law_some_end(draw, scope, wide) -/
def spSomeEnd : Sp := fun vs H Q _ => ∃ (d L sc : Addr) (ns : List Str) (wide : Bool), vs = [.ref d, .ref sc, .bl wide] ∧ Dr H d L ∧ H sc = some (.lst (ns.map V.str)) ∧ sc ≠ d ∧ ns ≠ [] ∧ ns.length < 100 ∧
  ∀ (v : V) (e : Str × Int) (H' : Hp), Rp H' v (encE e) → EndOk ns e → Dr H' d L → Go (· = d) H H' → Q v H'
/-- _law_fresh(draw, taken) -/
def spFresh : Sp := fun vs H Q _ => ∃ (d L sc : Addr) (ns : List Str), vs = [.ref d, .ref sc] ∧ Dr H d L ∧ H sc = some (.lst (ns.map V.str)) ∧ sc ≠ d ∧ ns.length < 26 ∧
  ∀ (x : Str) (H' : Hp), nameB x = true → x ∉ ns → Dr H' d L → Go (· = d) H H' → Q (.str x) H'
/-- no name may be called -/
abbrev C0 : Str → Prop := fun _ => False
/-- _law_leaf(draw, kit, scope, deep) -/
def spLeaf : Sp := fun vs H Q _ => ∃ (d L k kd sc : Addr) (dp r : Int) (fig wide : Bool), vs = [.ref d, .ref k, .ref sc, .int dp] ∧ Dr H d L ∧ Kt H k kd r fig wide ∧ k ≠ d ∧
  ∀ (v : V) (t : Thing) (H' : Hp), Rp H' v (enc t) → (∀ ns n, TOk C0 False ns n t) → cntT t = 1 → Dr H' d L → Go (· = d) H H' → Q v H'
/-- what a drawing of things is handed -/
def spDraw (post : Nat → List Str → V → Hp → Nat → Prop) (n : Nat) : Sp := fun vs H Q _ => ∃ (d L k kd sc : Addr) (r : Nat) (fig wide : Bool) (ns : List Str), vs = [.ref d, .ref k, .ref sc, .int (4 - n)] ∧ Dr H d L ∧ Kt H k kd r fig wide ∧ k ≠ d ∧ k ≠ L ∧ 1 ≤ r ∧ r ≤ 100 ∧
  H sc = some (.lst (ns.map V.str)) ∧ sc ≠ d ∧ sc ≠ k ∧ ScOk ns ∧ ns ≠ [] ∧ ns.length + n ≤ 20 ∧
  ∀ (v : V) (c r' : Nat) (H' : Hp), post n ns v H' c → c + r' = r → Dr H' d L → Kt H' k kd r' fig wide → Go (M2 d k) H H' → Q v H'
def spDrawThing : Nat → Sp := spDraw fun n ns v H' c => ∃ t, Rp H' v (enc t) ∧ TOk C0 False ns n t ∧ cntT t = c
def spDrawBody : Nat → Sp := spDraw fun n ns v H' c => ∃ ts, ts ≠ [] ∧ Rp H' v (.tup (encs ts)) ∧ TsOk C0 False ns n ts ∧ cntB ts = c
/-- _law_drawn(draw, room, figures, wide) -/
def spDrawn : Sp := fun vs H Q _ => ∃ (d L : Addr) (r : Nat) (fig wide : Bool), vs = [.ref d, .int r, .bl fig, .bl wide] ∧ Dr H d L ∧ 1 ≤ r ∧ r ≤ 100 ∧
  ∀ (v : V) (ts : List Thing) (H' : Hp), ts ≠ [] → Rp H' v (.tup (encs ts)) → TsOk C0 False ["n"] 4 ts → cntB ts ≤ r → Dr H' d L → Go (· = d) H H' → Q v H'
/-- of fewer than 26 names one of the doubled letters is none -/
theorem nodup_sub : ∀ {xs ys : List Str}, xs.Nodup → (∀ x ∈ xs, x ∈ ys) → xs.length ≤ ys.length
  | [], _, _, _ => Nat.zero_le _
  | x :: r, ys, h, s => by
    obtain ⟨h1, h2⟩ := List.nodup_cons.mp h
    have hx := s x List.mem_cons_self
    have ih := nodup_sub (xs := r) (ys := ys.erase x) h2 (fun y hy => by
      have hne : y ≠ x := fun e => h1 (e ▸ hy)
      exact (List.mem_erase_of_ne hne).mpr (s y (List.mem_cons_of_mem _ hy)))
    rw [List.length_erase_of_mem hx] at ih
    have : 0 < ys.length := List.length_pos_of_mem hx
    rw [List.length_cons]
    omega
def spare : List Str := abc.map fun c => S [c, c]
theorem spare_nodup : spare.Nodup := by decide +kernel
theorem spare_free {ns : List Str} (h : ns.length < 26) : ∃ x ∈ spare, x ∉ ns := by
  by_cases c : ∃ x ∈ spare, x ∉ ns
  · exact c
  · have : spare.length ≤ ns.length := nodup_sub spare_nodup (fun x hx => by
      by_cases hn : x ∈ ns
      · exact hn
      · exact absurd ⟨x, hx, hn⟩ c)
    have e : spare.length = 26 := by decide +kernel
    omega
theorem spare_name {x : Str} (h : x ∈ spare) : nameB x = true := by
  obtain ⟨c, hc, rfl⟩ := List.mem_map.mp h
  exact name_two c hc
end OG

set_option Elab.async false
set_option linter.all false
set_option maxRecDepth 100000
set_option maxHeartbeats 4000000
namespace OG
open PySem PySem.Spec PyProof.Rows L2
/-! ### two values that stand for one datum -/
def Eq2 (H : Hp) : Nat → V → V → Prop
  | 0, v, w => v = w ∧ flatV v = true
  | n + 1, v, w => (v = w ∧ flatV v = true) ∨
    (∃ (a b : Addr) (vs ws : List V), v = .ref a ∧ w = .ref b ∧ ((H a = some (.tup vs) ∧ H b = some (.tup ws)) ∨ (H a = some (.lst vs) ∧ H b = some (.lst ws))) ∧ vs.length = ws.length ∧ vs.length < 100000 ∧
      ∀ (i : Nat) x y, vs[i]? = some x → ws[i]? = some y → Eq2 H n x y)
theorem Eq2.same {H H' : Hp} (s : Same H H') : ∀ {n : Nat} {v w : V}, Eq2 H n v w → Eq2 H' n v w
  | 0, _, _, h => h
  | n + 1, v, w, h => by
    rcases h with h | ⟨a, b, vs, ws, e1, e2, h, hl, hz, q⟩
    · exact .inl h
    · refine .inr ⟨a, b, vs, ws, e1, e2, ?_, hl, hz, fun i x y hx hy => Eq2.same s (q i x y hx hy)⟩
      rcases h with ⟨h1, h2⟩ | ⟨h1, h2⟩
      · exact .inl ⟨s _ _ h1, s _ _ h2⟩
      · exact .inr ⟨s _ _ h1, s _ _ h2⟩
theorem Eq2.flat {H : Hp} {v : V} (h : flatV v = true) : ∀ n, Eq2 H n v v
  | 0 => ⟨rfl, h⟩
  | n + 1 => .inl ⟨rfl, h⟩
mutual
/-- how deep tuples stand in one another -/
def depD : D → Nat
  | .tup xs => 1 + depL xs
  | _ => 0
def depL : List D → Nat
  | [] => 0
  | x :: xs => max (depD x) (depL xs)
end
mutual
/-- no tuple is too long -/
def fitD : D → Prop
  | .tup xs => xs.length < 100000 ∧ fitL xs
  | _ => True
def fitL : List D → Prop
  | [] => True
  | x :: xs => fitD x ∧ fitL xs
end
theorem fit_get : ∀ {xs : List D} {i : Nat} {x : D}, fitL xs → xs[i]? = some x → fitD x
  | [], _, _, _, h => by simp at h
  | y :: ys, 0, x, f, h => by
    have : y = x := Option.some.inj h
    exact this ▸ f.1
  | y :: ys, i + 1, x, f, h => fit_get (xs := ys) (i := i) f.2 h
theorem dep_get : ∀ {xs : List D} {i : Nat} {x : D}, xs[i]? = some x → depD x ≤ depL xs
  | [], _, _, h => by simp at h
  | y :: ys, 0, x, h => by
    have : y = x := Option.some.inj h
    rw [← this]
    exact Nat.le_max_left _ _
  | y :: ys, i + 1, x, h => Nat.le_trans (dep_get (xs := ys) (i := i) h) (Nat.le_max_right _ _)
theorem eq2_of {H : Hp} : ∀ (n : Nat) (x : D) (v w : V), Rp H v x → Rp H w x → depD x ≤ n → fitD x → Eq2 H n v w
  | n, .non, _, _, h, k, _, _ => by rw [show _ = V.non from h, show _ = V.non from k]; exact Eq2.flat rfl n
  | n, .bl b, _, _, h, k, _, _ => by rw [show _ = V.bl b from h, show _ = V.bl b from k]; exact Eq2.flat rfl n
  | n, .int i, _, _, h, k, _, _ => by rw [show _ = V.int i from h, show _ = V.int i from k]; exact Eq2.flat rfl n
  | n, .str z, _, _, h, k, _, _ => by rw [show _ = V.str z from h, show _ = V.str z from k]; exact Eq2.flat rfl n
  | 0, .tup xs, _, _, _, _, hd, _ => by
    have : 1 + depL xs ≤ 0 := hd
    omega
  | n + 1, .tup xs, v, w, h, k, hd, hf => by
    obtain ⟨a, vs, e1, h1, r1⟩ := h
    obtain ⟨b, ws, e2, h2, r2⟩ := k
    have l1 := r1.length
    have l2 := r2.length
    have hd2 : depL xs ≤ n := by
      have : 1 + depL xs ≤ n + 1 := hd
      omega
    refine .inr ⟨a, b, vs, ws, e1, e2, .inl ⟨h1, h2⟩, l1.trans l2.symm, by rw [l1]; exact hf.1, fun i x y hx hy => ?_⟩
    obtain ⟨d1, g1, p1⟩ := r1.get hx
    obtain ⟨d2, g2, p2⟩ := r2.get hy
    have e : d1 = d2 := Option.some.inj (g1.symm.trans g2)
    subst e
    exact eq2_of n d1 x y p1 p2 (Nat.le_trans (dep_get g1) hd2) (fit_get hf.2 g1)
def spSame (n : Nat) : Sp := fun vs H Q _ => ∃ v w : V, vs = [v, w] ∧ Eq2 H n v w ∧ ∀ H', Same H H' → Q (.bl true) H'
def prevS : Nat → Sp
  | 0 => fun _ _ _ _ => False
  | n + 1 => spSame n
/-- zip of two tuples -/
theorem walk_zipT {K : PySem.W.Frag} {a b : Addr} {xs ys : List V} {n : Nat} (hn : n = min xs.length ys.length) : Walk (RZ.ItzT K a b) n (fun H => SqT K H a xs ∧ SqT K H b ys) (YPair (fun i => xs[i]?) (fun i => ys[i]?)) := by
  subst hn
  refine ⟨fun i _ hi q => ?_, fun _ q => ⟨xs, ys, q.1, q.2, by omega⟩, fun i H v H' _ q y => ?_⟩
  · have h1 : i < xs.length := by omega
    have h2 : i < ys.length := by omega
    exact ⟨xs, ys, xs[i], ys[i], q.1, q.2, by simp [h1], by simp [h2]⟩
  · obtain ⟨T, x, z, h1, h2, h3, h4, h5⟩ := y
    exact ⟨T, x, z, h1, h2, h3, h4 xs q.1, h5 ys q.2⟩
theorem fn_none {P : Program} {w : World} {K : PySem.W.Frag} {mg : Str → Option Value} {base : Heap} {f : Addr} {fd : FuncData} {k : Nat} {ps : List Str} : FnOk P w K mg base CX0 k f fd ps (fun _ _ _ _ => False) :=
  ⟨fun _ _ _ _ h => h.elim, fun _ _ _ _ _ _ _ _ _ _ _ _ _ h => h.elim⟩
theorem all_trues : ∀ n : Nat, (List.replicate n true).all id = true
  | 0 => rfl
  | n + 1 => by rw [List.replicate_succ, List.all_cons, all_trues n]; rfl
theorem pg_tupK {X : Cx} {K : PySem.W.Frag} {es : List Expr} {k : Nat} {t : TGs} {n : Nat} {pos : Pos} (hK : X.K = K) (hc : X.calm = true) (h : PGs X es t) (hn : (assignEach es X.env).length = n := by rfl) (hst : (assignEach es X.env).findIdx? (·.1) = none := by rfl) : PG X (.Tuple es k pos) (gTup K n t) := by
  subst hK
  exact pg_tup hc h hn hst
end OG

set_option Elab.async false
set_option linter.all false
set_option maxRecDepth 100000
set_option maxHeartbeats 4000000
namespace OG
open PySem PySem.Spec PyProof.Rows L2
theorem str_to {Q : VK} {a b : Str} {H : Hp} (h : Q (.str b) H) (e : tl a = tl b) : Q (.str a) H := by rw [str_ext e]; exact h
theorem szs {a b : Str} (h : a.length + b.length ≤ 100000) : (a ++ b).length ≤ sizeLine := by rw [len_app]; exact sz h
theorem szc {a b : Str} (h : a.length + b.length ≤ 100000) : a.length + b.length ≤ sizeLine := sz h
theorem l_emp : Str.empty.length = 0 := rfl
theorem l_0 : ("" : Str).length = 0 := by decide +kernel
theorem l_plus : (" + " : Str).length = 3 := by decide +kernel
theorem l_minus : (" - " : Str).length = 3 := by decide +kernel
theorem l_step : ("step " : Str).length = 5 := by decide +kernel
theorem l_for : ("for " : Str).length = 4 := by decide +kernel
theorem l_from : (" from " : Str).length = 6 := by decide +kernel
theorem l_to : (" to " : Str).length = 4 := by decide +kernel
theorem l_open : (" (" : Str).length = 2 := by decide +kernel
theorem l_shut : (")" : Str).length = 1 := by decide +kernel
theorem l_if : ("if " : Str).length = 3 := by decide +kernel
theorem l_le : (" <= " : Str).length = 4 := by decide +kernel
theorem l_else : (" else (" : Str).length = 7 := by decide +kernel
theorem l_double : ("double (" : Str).length = 8 := by decide +kernel
theorem l_call : ("call " : Str).length = 5 := by decide +kernel
theorem l_with : (" with " : Str).length = 6 := by decide +kernel
theorem l_again : ("again " : Str).length = 6 := by decide +kernel
theorem l_on : (" on " : Str).length = 4 := by decide +kernel
theorem numL_len {i : Int} (h0 : -99 ≤ i) (h1 : i ≤ 99) : ((toString i : Str)).length ≤ 3 := by
  have := (num_small h0 h1).1
  unfold numL at this
  rw [← len_tl] at this
  exact this
theorem int_log {i : Int} (h0 : -99 ≤ i) (h1 : i ≤ 99) : i.natAbs.log2 < 1920 := (num_small h0 h1).2
theorem strs_len (ls : List (List Nat)) : ((ls.map S).map (·.length)).sum = (ls.map (·.length)).sum := by
  rw [List.map_map]
  congr 1
theorem sum_le_two : ∀ ls : List (List Nat), (ls.map (·.length)).sum + ls.length * 2 = (ls.map (fun l => l.length + 2)).sum
  | [] => rfl
  | l :: r => by
    have ih := sum_le_two r
    rw [List.map_cons, List.map_cons, List.sum_cons, List.sum_cons, List.length_cons]
    omega
/-- '; '.join of the things' texts -/
theorem join_things (ts : List Thing) : Txt.join "; " (ts.map fun t => S (thingL t)) = S (planL ts) := by
  have e := SX.join_S (tl "; ") (thingsL ts)
  have e1 : SX.S (tl "; ") = ("; " : Str) := S_tl _
  rw [e1] at e
  have e2 : (thingsL ts).map SX.S = ts.map fun t => S (thingL t) := by
    rw [thingsL_map, List.map_map]
    rfl
  rw [e2] at e
  exact e
theorem things_sum {C : Str → Prop} {A : Prop} {ts : List Thing} {sc : List Str} {n : Nat} (h : TsOk C A sc n ts) (hs : ScOk sc) (hc : cntB ts ≤ 1000) :
    (((ts.map fun t => S (thingL t))).map (·.length)).sum + (ts.map fun t => S (thingL t)).length * ("; " : Str).length ≤ 16777216 := by
  have c0 : ("; " : Str).length = 2 := by decide +kernel
  have e : (ts.map fun t => S (thingL t)) = (thingsL ts).map S := by
    rw [thingsL_map, List.map_map]
    rfl
  rw [e, strs_len, c0, List.length_map, sum_le_two]
  have := things_size ts sc n h hs
  omega
theorem body_len {C : Str → Prop} {A : Prop} {ts : List Thing} {sc : List Str} {n : Nat} (h : TsOk C A sc n ts) (hs : ScOk sc) (hc : cntB ts ≤ 1000) : (planL ts).length ≤ 80000 := by
  have := plan_size h hs
  omega
theorem rpl_things {H : Hp} {vs : List V} {ts : List Thing} (h : RpL H vs (encs ts)) {i : Nat} {x : V} (hx : vs[i]? = some x) : ∃ t, ts[i]? = some t ∧ Rp H x (enc t) := by
  obtain ⟨d, hd, hr⟩ := h.get hx
  rw [encs_map, List.getElem?_map] at hd
  cases ht : ts[i]? with
  | none => rw [ht] at hd; cases hd
  | some t =>
    rw [ht] at hd
    have : enc t = d := Option.some.inj hd
    exact ⟨t, rfl, this ▸ hr⟩
end OG

set_option Elab.async false
set_option linter.all false
set_option maxRecDepth 100000
set_option maxHeartbeats 4000000
namespace OG
open PySem PySem.Spec PyProof.Rows L2
mutual
def toPy : D → PyData
  | .non => .none
  | .bl b => .bool b
  | .int n => .int n
  | .str z => .str z
  | .tup xs => .tuple (toPys xs)
def toPys : List D → List PyData
  | [] => []
  | x :: xs => toPy x :: toPys xs
end
mutual
theorem rp_dp {K : PySem.W.Frag} {H : Hp} : ∀ (x : D) (v : V), Rp H v x → Dp K H v (toPy x)
  | .non, _, h => by rw [show _ = V.non from h]; exact .non
  | .bl b, _, h => by rw [show _ = V.bl b from h]; exact .bl b
  | .int n, _, h => by rw [show _ = V.int n from h]; exact .int n
  | .str z, _, h => by rw [show _ = V.str z from h]; exact .str z
  | .tup xs, _, h => by
    obtain ⟨a, vs, e, q, r⟩ := h
    rw [e]
    exact .tup (SqT.of q) (rp_dps xs vs r)
theorem rp_dps {K : PySem.W.Frag} {H : Hp} : ∀ (xs : List D) (vs : List V), RpL H vs xs → DpAll K H vs (toPys xs)
  | [], _, h => by rw [show _ = [] from h]; exact .nil
  | x :: xs, _, h => by
    obtain ⟨v, r, e, q, t⟩ := h
    rw [e]
    exact .cons (rp_dp x v q) (rp_dps xs r t)
end
theorem abc_range : ∀ c ∈ abc, 97 ≤ c ∧ c ≤ 122 := by
  have h : abc.all (fun c => decide (97 ≤ c) && decide (c ≤ 122)) = true := by decide +kernel
  intro c hc
  have := List.all_eq_true.mp h c hc
  simpa only [Bool.and_eq_true, decide_eq_true_eq] using this
theorem name_strOk {z : Str} (h : nameB z = true) : PyData.strOk z = true := by
  have ha := name_abc h
  unfold PyData.strOk
  rw [Array.all_eq_true']
  intro c hc
  have := abc_range c (ha c (by simpa [tl] using hc))
  simp
  omega
theorem end_py {sc : List Str} {e : Str × Int} (hs : ScOk sc) (h : EndOk sc e) : (toPy (encE e)).canLay0 = true ∧ (toPy (encE e)).depth = 1 := by
  have h1 : PyData.strOk e.1 = true := by
    rcases h with ⟨h1, _⟩ | ⟨h1, _⟩
    · rw [h1]
      decide +kernel
    · rcases hs _ h1 with h2 | h2
      · rw [h2]
        decide +kernel
      · exact name_strOk h2
  refine ⟨?_, rfl⟩
  show (PyData.strOk e.1 && (true && true)) = true
  rw [h1]
  rfl
mutual
theorem thing_py {C : Str → Prop} {A : Prop} : ∀ (t : Thing) (sc : List Str) (n : Nat), TOk C A sc n t → ScOk sc → (toPy (enc t)).canLay0 = true ∧ (toPy (enc t)).depth ≤ 2 * n + 2
  | .step k, sc, n, h, hs => ⟨by show (PyData.strOk "step" && (true && true)) = true; decide +kernel, by show 1 ≤ 2 * n + 2; omega⟩
  | .loop x a b body, sc, n, h, hs => by
    obtain ⟨h1, h2, h3, h4, h5, m, rfl, h6⟩ := h
    obtain ⟨a1, a2⟩ := end_py hs h3
    obtain ⟨b1, b2⟩ := end_py hs h4
    obtain ⟨c1, c2⟩ := things_py body _ _ h6 (scOk_snoc hs h1)
    have f1 : PyData.strOk "for" = true := by decide +kernel
    constructor
    · show (PyData.strOk "for" && (PyData.strOk x && ((toPy (encE a)).canLay0 && ((toPy (encE b)).canLay0 && (PyData.canLayAll0 (toPys (encs body)) && true))))) = true
      rw [f1, name_strOk h1, a1, b1, c1]
      rfl
    · show max 0 (max 0 (max (toPy (encE a)).depth (max (toPy (encE b)).depth (max (PyData.depthAll (toPys (encs body)) + 1) 0)))) + 1 ≤ 2 * (m + 1) + 2
      rw [a2, b2]
      omega
  | .test a b x y, sc, n, h, hs => by
    obtain ⟨h3, h4, h5, m, rfl, h6, h7⟩ := h
    obtain ⟨a1, a2⟩ := end_py hs h3
    obtain ⟨b1, b2⟩ := end_py hs h4
    obtain ⟨c1, c2⟩ := things_py x _ _ h6 hs
    obtain ⟨d1, d2⟩ := things_py y _ _ h7 hs
    have f1 : PyData.strOk "if" = true := by decide +kernel
    constructor
    · show (PyData.strOk "if" && ((toPy (encE a)).canLay0 && ((toPy (encE b)).canLay0 && (PyData.canLayAll0 (toPys (encs x)) && (PyData.canLayAll0 (toPys (encs y)) && true))))) = true
      rw [f1, a1, b1, c1, d1]
      rfl
    · show max 0 (max (toPy (encE a)).depth (max (toPy (encE b)).depth (max (PyData.depthAll (toPys (encs x)) + 1) (max (PyData.depthAll (toPys (encs y)) + 1) 0)))) + 1 ≤ 2 * (m + 1) + 2
      rw [a2, b2]
      omega
  | .twice b, sc, n, h, hs => by
    obtain ⟨h5, m, rfl, h6⟩ := h
    obtain ⟨c1, c2⟩ := things_py b _ _ h6 hs
    have f1 : PyData.strOk "double" = true := by decide +kernel
    constructor
    · show (PyData.strOk "double" && (PyData.canLayAll0 (toPys (encs b)) && true)) = true
      rw [f1, c1]
      rfl
    · show max 0 (max (PyData.depthAll (toPys (encs b)) + 1) 0) + 1 ≤ 2 * (m + 1) + 2
      omega
  | .call x e, sc, n, h, hs => by
    obtain ⟨a1, a2⟩ := end_py hs h.2.2
    have f1 : PyData.strOk "call" = true := by decide +kernel
    constructor
    · show (PyData.strOk "call" && (PyData.strOk x && ((toPy (encE e)).canLay0 && true))) = true
      rw [f1, name_strOk h.1, a1]
      rfl
    · show max 0 (max 0 (max (toPy (encE e)).depth 0)) + 1 ≤ 2 * n + 2
      rw [a2]
      omega
  | .again k w, sc, n, h, hs => by
    obtain ⟨_, _, _, h3⟩ := h
    have f1 : PyData.strOk "again" = true := by decide +kernel
    have f2 : PyData.strOk w = true := by
      rcases h3 with rfl | rfl | rfl
      · decide +kernel
      · decide +kernel
      · decide +kernel
    constructor
    · show (PyData.strOk "again" && (true && (PyData.strOk w && true))) = true
      rw [f1, f2]
      rfl
    · show 1 ≤ 2 * n + 2
      omega
theorem things_py {C : Str → Prop} {A : Prop} : ∀ (ts : List Thing) (sc : List Str) (n : Nat), TsOk C A sc n ts → ScOk sc → PyData.canLayAll0 (toPys (encs ts)) = true ∧ PyData.depthAll (toPys (encs ts)) ≤ 2 * n + 2
  | [], _, _, _, _ => ⟨rfl, Nat.zero_le _⟩
  | t :: r, sc, n, h, hs => by
    obtain ⟨a1, a2⟩ := thing_py t sc n h.1 hs
    obtain ⟨b1, b2⟩ := things_py r sc n h.2 hs
    constructor
    · show ((toPy (enc t)).canLay0 && PyData.canLayAll0 (toPys (encs r))) = true
      rw [a1, b1]
      rfl
    · show max (toPy (enc t)).depth (PyData.depthAll (toPys (encs r))) ≤ 2 * n + 2
      omega
end
/-- a body against the empty tuple -/
theorem body_eqv {C : Str → Prop} {A : Prop} {ts : List Thing} {sc : List Str} {n : Nat} (h : TsOk C A sc n ts) (hs : ScOk sc) (hn : n ≤ 20) :
    SeqAt.shaped (toPy (.tup (encs ts))) = true ∧ PyData.eqv (toPy (.tup (encs ts))) (.tuple []) = ts.isEmpty := by
  obtain ⟨a1, a2⟩ := things_py ts sc n h hs
  constructor
  · unfold SeqAt.shaped
    rw [show (toPy (.tup (encs ts))).canLay0 = true from a1]
    have : (toPy (.tup (encs ts))).depth ≤ 64 := by
      show PyData.depthAll (toPys (encs ts)) + 1 ≤ 64
      omega
    rw [decide_eq_true this]
    rfl
  · cases ts with
    | nil => rfl
    | cons t r => rfl
end OG

set_option Elab.async false
set_option linter.all false
set_option maxRecDepth 100000
set_option maxHeartbeats 4000000
namespace OG
open PySem PySem.Spec PyProof.Rows L2
def cutD (xs : List D) (lo hi : Option Int) : List D := (xs.drop (HT.sIx xs.length 0 lo)).take (HT.sIx xs.length xs.length hi - HT.sIx xs.length 0 lo)
theorem sl_rp {K : PySem.W.Frag} {H : Hp} {v : V} {xs : List D} {lo hi : Option Int} {Q : VK} (h : Rp H v (.tup xs)) (q : ∀ v' H', Same H H' → Rp H' v' (.tup (cutD xs lo hi)) → Q v' H') : rSlA K v lo hi H Q := by
  obtain ⟨a, vs, rfl, ha, r⟩ := id h
  have l := r.length
  refine ⟨a, vs, rfl, SqT.of ha, fun hw => ?_, fun hw p np => ?_⟩
  · have e : cutD xs lo hi = xs := by
      unfold cutD
      rw [← l, hw.1, hw.2, List.drop_zero, Nat.sub_zero, l, List.take_length]
    have := q (.ref a) H (Same.refl H)
    rw [e] at this
    exact this h
  · have s : Same H (upd H p (.tup (cutV vs lo hi))) := same_new np
    refine q (.ref p) _ s (rp_tup upd_same ?_)
    unfold cutV cutD
    rw [← l]
    exact ((r.drop _).take _).to (Imm.same s)
theorem cat_rp {K : PySem.W.Frag} {H : Hp} {x y : V} {xs ys : List D} {Q : VK} (hx : Rp H x (.tup xs)) (hy : Rp H y (.tup ys)) (hz : xs.length + ys.length ≤ 100000) (q : ∀ v' H', Same H H' → Rp H' v' (.tup (xs ++ ys)) → Q v' H') : rCatA K x y H Q := by
  obtain ⟨a, vs, rfl, ha, r⟩ := id hx
  obtain ⟨b, ws, rfl, hb, t⟩ := id hy
  have l := r.length
  have m := t.length
  refine ⟨a, b, vs, ws, rfl, rfl, SqT.of ha, SqT.of hb, sz (by omega), fun e => ?_, fun _ e => ?_, fun _ _ p np => ?_⟩
  · have : xs = [] := List.eq_nil_of_length_eq_zero (by rw [← l, e]; rfl)
    subst this
    exact q (.ref b) H (Same.refl H) hy
  · have : ys = [] := List.eq_nil_of_length_eq_zero (by rw [← m, e]; rfl)
    subst this
    have := q (.ref a) H (Same.refl H)
    rw [List.append_nil] at this
    exact this hx
  · have s : Same H (upd H p (.tup (vs ++ ws))) := same_new np
    exact q (.ref p) _ s (rp_tup upd_same ((r.append t).to (Imm.same s)))
theorem cutD_to (xs : List D) (k : Nat) : cutD xs none (some (k : Int)) = xs.take k := by
  unfold cutD
  rw [HT.sIx_none, HT.sIx_nat, List.drop_zero, Nat.sub_zero]
  by_cases h : k ≤ xs.length
  · rw [Nat.min_eq_left h]
  · rw [Nat.min_eq_right (by omega), List.take_length, List.take_of_length_le (by omega)]
theorem cutD_from (xs : List D) (k : Nat) : cutD xs (some (k : Int)) none = xs.drop k := by
  unfold cutD
  rw [HT.sIx_none, HT.sIx_nat]
  by_cases h : k ≤ xs.length
  · rw [Nat.min_eq_left h, List.take_of_length_le (by rw [List.length_drop]; omega)]
  · rw [Nat.min_eq_right (by omega), List.drop_length, Nat.sub_self, List.drop_eq_nil_of_le (by omega)]
    rfl
theorem encs_take (ts : List Thing) (k : Nat) : (encs ts).take k = encs (ts.take k) := by rw [encs_map, encs_map, List.map_take]
theorem encs_drop (ts : List Thing) (k : Nat) : (encs ts).drop k = encs (ts.drop k) := by rw [encs_map, encs_map, List.map_drop]
theorem cnt_take : ∀ (ts : List Thing) (k : Nat), cntB (ts.take k) ≤ cntB ts
  | _, 0 => Nat.zero_le _
  | [], k + 1 => Nat.le_refl _
  | t :: r, k + 1 => by
    have := cnt_take r k
    show cntT t + cntB (r.take k) ≤ cntT t + cntB r
    omega
theorem cnt_drop : ∀ (ts : List Thing) (k : Nat), cntB (ts.drop k) ≤ cntB ts
  | _, 0 => Nat.le_refl _
  | [], k + 1 => Nat.le_refl _
  | t :: r, k + 1 => by
    have := cnt_drop r k
    show cntB (r.drop k) ≤ cntT t + cntB r
    omega
mutual
theorem tok_mono {C C' : Str → Prop} {A A' : Prop} (hC : ∀ x, C x → C' x) (hA : A → A') : ∀ (t : Thing) (sc : List Str) (n : Nat), TOk C A sc n t → TOk C' A' sc n t
  | .step _, _, _, h => h
  | .loop x a b body, sc, n, h => by
    obtain ⟨h1, h2, h3, h4, h5, m, e, h6⟩ := h
    exact ⟨h1, h2, h3, h4, h5, m, e, tsok_mono hC hA body _ _ h6⟩
  | .test a b x y, sc, n, h => by
    obtain ⟨h3, h4, h5, m, e, h6, h7⟩ := h
    exact ⟨h3, h4, h5, m, e, tsok_mono hC hA x _ _ h6, tsok_mono hC hA y _ _ h7⟩
  | .twice b, sc, n, h => by
    obtain ⟨h5, m, e, h6⟩ := h
    exact ⟨h5, m, e, tsok_mono hC hA b _ _ h6⟩
  | .call x e, sc, n, h => ⟨h.1, hC _ h.2.1, h.2.2⟩
  | .again k w, sc, n, h => ⟨hA h.1, h.2⟩
theorem tsok_mono {C C' : Str → Prop} {A A' : Prop} (hC : ∀ x, C x → C' x) (hA : A → A') : ∀ (ts : List Thing) (sc : List Str) (n : Nat), TsOk C A sc n ts → TsOk C' A' sc n ts
  | [], _, _, _ => trivial
  | t :: r, sc, n, h => ⟨tok_mono hC hA t sc n h.1, tsok_mono hC hA r sc n h.2⟩
end
theorem tsok_append {C : Str → Prop} {A : Prop} {sc : List Str} {n : Nat} {a b : List Thing} (h : TsOk C A sc n a) (k : TsOk C A sc n b) : TsOk C A sc n (a ++ b) := by
  rw [tsok_iff] at h k ⊢
  intro t ht
  rcases List.mem_append.mp ht with h1 | h1
  · exact h t h1
  · exact k t h1
theorem tsok_take {C : Str → Prop} {A : Prop} {sc : List Str} {n : Nat} {a : List Thing} (h : TsOk C A sc n a) (k : Nat) : TsOk C A sc n (a.take k) := by
  rw [tsok_iff] at h ⊢
  exact fun t ht => h t (List.mem_of_mem_take ht)
theorem tsok_drop {C : Str → Prop} {A : Prop} {sc : List Str} {n : Nat} {a : List Thing} (h : TsOk C A sc n a) (k : Nat) : TsOk C A sc n (a.drop k) := by
  rw [tsok_iff] at h ⊢
  exact fun t ht => h t (List.mem_of_mem_drop ht)
theorem scOk_n : ScOk ["n"] := fun x hx => .inl (List.mem_singleton.mp hx)
abbrev CT : Str → Prop := fun _ => True
def spLaw (K : PySem.W.Frag) : Sp := fun vs H Q _ => ∃ (a : Addr) (ns : List Int), vs = [.ref a] ∧ SqL K H a (ns.map V.int) ∧ ns.length ≤ 63 ∧ ∀ H', Q (.bl true) H'
/-! depth and fit of a plan's datum -/
theorem depD_end (e : Str × Int) : depD (encE e) = 1 := rfl
mutual
theorem thing_dep {C : Str → Prop} {A : Prop} : ∀ (t : Thing) (sc : List Str) (n : Nat), TOk C A sc n t → depD (enc t) ≤ 2 * n + 2
  | .step k, _, n, _ => by show 1 ≤ 2 * n + 2; omega
  | .loop x a b body, sc, n, h => by
    obtain ⟨_, _, _, _, _, m, rfl, h6⟩ := h
    have := things_dep body _ _ h6
    show 1 + max 0 (max 0 (max 1 (max 1 (max (1 + depL (encs body)) 0)))) ≤ 2 * (m + 1) + 2
    omega
  | .test a b x y, sc, n, h => by
    obtain ⟨_, _, _, m, rfl, h6, h7⟩ := h
    have h8 := things_dep x _ _ h6
    have h9 := things_dep y _ _ h7
    show 1 + max 0 (max 1 (max 1 (max (1 + depL (encs x)) (max (1 + depL (encs y)) 0)))) ≤ 2 * (m + 1) + 2
    omega
  | .twice b, sc, n, h => by
    obtain ⟨_, m, rfl, h6⟩ := h
    have := things_dep b _ _ h6
    show 1 + max 0 (max (1 + depL (encs b)) 0) ≤ 2 * (m + 1) + 2
    omega
  | .call x e, _, n, _ => by show 1 + max 0 (max 0 (max 1 0)) ≤ 2 * n + 2; omega
  | .again k w, _, n, _ => by show 1 ≤ 2 * n + 2; omega
theorem things_dep {C : Str → Prop} {A : Prop} : ∀ (ts : List Thing) (sc : List Str) (n : Nat), TsOk C A sc n ts → depL (encs ts) ≤ 2 * n + 2
  | [], _, _, _ => Nat.zero_le _
  | t :: r, sc, n, h => by
    have h1 := thing_dep t sc n h.1
    have h2 := things_dep r sc n h.2
    show max (depD (enc t)) (depL (encs r)) ≤ 2 * n + 2
    omega
end
theorem plan_dep {C : Str → Prop} {A : Prop} {ts : List Thing} {sc : List Str} {n k : Nat} (h : TsOk C A sc n ts) (hk : 2 * n + 3 ≤ k) : depD (.tup (encs ts)) ≤ k := by
  have := things_dep ts sc n h
  show 1 + depL (encs ts) ≤ k
  omega
mutual
theorem thing_fit : ∀ (t : Thing), cntT t ≤ 1000 → fitD (enc t)
  | .step k, _ => ⟨by show 2 < 100000; decide, trivial, trivial, trivial⟩
  | .loop x a b body, h => by
    have h2 : 1 + cntB body ≤ 1000 := h
    have hl := cnt_len body
    exact ⟨by show 5 < 100000; decide, trivial, trivial, ⟨by show 2 < 100000; decide, trivial, trivial, trivial⟩, ⟨by show 2 < 100000; decide, trivial, trivial, trivial⟩, ⟨by rw [encs_length]; omega, things_fit body (by omega)⟩, trivial⟩
  | .test a b x y, h => by
    have h2 : 1 + cntB x + cntB y ≤ 1000 := h
    have hx := cnt_len x
    have hy := cnt_len y
    exact ⟨by show 5 < 100000; decide, trivial, ⟨by show 2 < 100000; decide, trivial, trivial, trivial⟩, ⟨by show 2 < 100000; decide, trivial, trivial, trivial⟩, ⟨by rw [encs_length]; omega, things_fit x (by omega)⟩, ⟨by rw [encs_length]; omega, things_fit y (by omega)⟩, trivial⟩
  | .twice b, h => by
    have h2 : 1 + cntB b ≤ 1000 := h
    have hl := cnt_len b
    exact ⟨by show 2 < 100000; decide, trivial, ⟨by rw [encs_length]; omega, things_fit b (by omega)⟩, trivial⟩
  | .call x e, _ => ⟨by show 3 < 100000; decide, trivial, trivial, ⟨by show 2 < 100000; decide, trivial, trivial, trivial⟩, trivial⟩
  | .again k w, _ => ⟨by show 3 < 100000; decide, trivial, trivial, trivial, trivial⟩
theorem things_fit : ∀ (ts : List Thing), cntB ts ≤ 1000 → fitL (encs ts)
  | [], _ => trivial
  | t :: r, h => by
    have h2 : cntT t + cntB r ≤ 1000 := h
    exact ⟨thing_fit t (by omega), things_fit r (by omega)⟩
end
theorem plan_fit {C : Str → Prop} {A : Prop} {ts : List Thing} {sc : List Str} {n : Nat} (_ : TsOk C A sc n ts) (h : cntB ts ≤ 1000) : fitD (.tup (encs ts)) := by
  have hl := cnt_len ts
  exact ⟨by rw [encs_length]; omega, things_fit ts h⟩
end OG

set_option Elab.async false
set_option linter.all false
set_option maxRecDepth 100000
set_option maxHeartbeats 4000000
namespace OG
open PySem PySem.Spec PyProof.Rows L2
/-! ### x *= y, x //= y -/
def ipC (c : Int → Int → Prop) (f : Int → Int → Int) : TIp := fun x y H Q => ∃ i j, x = .int i ∧ y = .int j ∧ c i j ∧ Q (.int (f i j)) H
theorem ip_mul {X : Cx} : PIp X .Mult (ipC CMul fun i j => i * j) := by
  intro pins s σ H x y v u Q I r1 r2 h
  obtain ⟨i, j, e1, e2, hc, q⟩ := h
  subst e1; subst e2
  obtain ⟨t, rfl⟩ := r1
  obtain ⟨t', rfl⟩ := r2
  exact imul_int ⟨.int _, H, I.tok _, ⟨_, rfl⟩, q⟩ hc.ok
theorem ip_fdiv {X : Cx} : PIp X .FloorDiv (ipC CDiv fun i j => i / j) := by
  intro pins s σ H x y v u Q I r1 r2 h
  obtain ⟨i, j, e1, e2, hc, q⟩ := h
  subst e1; subst e2
  obtain ⟨t, rfl⟩ := r1
  obtain ⟨t', rfl⟩ := r2
  have h1 : (0 : Int) < j := hc.1
  have h2 : j < 1073741824 := hc.2
  refine ifloordiv_int (by omega) ?_ (.inl (PyProof.noPylong_small (by omega)))
  rw [Int.fdiv_eq_ediv_of_nonneg i (by omega)]
  exact ⟨.int _, H, I.tok _, ⟨_, rfl⟩, q⟩
/-! ### signs -/
def sgn (n : Int) : Int := if n = 0 then 0 else if 0 < n then 1 else -1
theorem sgn_pos {n : Int} (h : 0 < n) : sgn n = 1 := by unfold sgn; rw [if_neg (by omega), if_pos h]
theorem sgn_neg {n : Int} (h : n < 0) : sgn n = -1 := by unfold sgn; rw [if_neg (by omega), if_neg (by omega)]
theorem sgn_zero : sgn 0 = 0 := rfl
theorem sgn_cases (n : Int) : (n < 0 ∧ sgn n = -1) ∨ (n = 0 ∧ sgn n = 0) ∨ (0 < n ∧ sgn n = 1) := by
  rcases Int.lt_trichotomy n 0 with h | h | h
  · exact .inl ⟨h, sgn_neg h⟩
  · subst h; exact .inr (.inl ⟨rfl, rfl⟩)
  · exact .inr (.inr ⟨h, sgn_pos h⟩)
/-! ### logarithms, rounded down -/
def flogF : Nat → Nat → Nat → Nat
  | 0, _, _ => 0
  | f + 1, b, N => if b ≤ N then flogF f b (N / b) + 1 else 0
def flog (b N : Nat) : Nat := flogF 700 b N
theorem flogF_spec : ∀ (f b N : Nat), 2 ≤ b → 1 ≤ N → N < 2 ^ f → b ^ flogF f b N ≤ N ∧ N < b ^ (flogF f b N + 1)
  | 0, b, N, hb, h1, h2 => by
    have : N < 1 := h2
    omega
  | f + 1, b, N, hb, h1, h2 => by
    unfold flogF
    by_cases h : b ≤ N
    · rw [if_pos h]
      have hd1 : 1 ≤ N / b := Nat.div_pos h (by omega)
      have hd2 : N / b < 2 ^ f := by
        refine Nat.div_lt_of_lt_mul ?_
        have e : 2 ^ (f + 1) = 2 * 2 ^ f := by rw [Nat.pow_succ, Nat.mul_comm]
        have := Nat.mul_le_mul_right (2 ^ f) hb
        omega
      obtain ⟨i1, i2⟩ := flogF_spec f b (N / b) hb hd1 hd2
      constructor
      · rw [Nat.pow_succ]
        exact (Nat.le_div_iff_mul_le (by omega)).mp i1
      · rw [Nat.pow_succ]
        exact (Nat.div_lt_iff_lt_mul (by omega)).mp i2
    · rw [if_neg h]
      constructor
      · exact h1
      · show N < b ^ 1
        rw [Nat.pow_one]
        omega
theorem log_uniq {b N i j : Nat} (hb : 2 ≤ b) (h1 : b ^ i ≤ N) (h2 : N < b ^ (i + 1)) (h3 : b ^ j ≤ N) (h4 : N < b ^ (j + 1)) : i = j := by
  have a1 : b ^ i < b ^ (j + 1) := Nat.lt_of_le_of_lt h1 h4
  have a2 : b ^ j < b ^ (i + 1) := Nat.lt_of_le_of_lt h3 h2
  have c1 := (Nat.pow_lt_pow_iff_right (a := b) (by omega)).mp a1
  have c2 := (Nat.pow_lt_pow_iff_right (a := b) (by omega)).mp a2
  omega
/-! ### growths -/
def Gs : List (Nat × Nat) := [(1, 2), (2, 3), (2, 2), (4, 3), (5, 3), (3, 2), (6, 3), (7, 3), (8, 3), (4, 2), (5, 2), (6, 2), (7, 2), (8, 2), (9, 2), (16, 2), (32, 2), (64, 2), (128, 2), (256, 2), (512, 2)]
def rank (p : Nat × Nat) : Int := (Gs.findIdx (fun q => q == p) : Nat)
def fdiff (p q : Nat × Nat) (u : Nat) : Int := (flog p.2 (p.1 ^ u) : Int) - (flog q.2 (q.1 ^ u) : Int)
def chk (p q : Nat × Nat) : Bool :=
  decide (p = q) || ((List.range 6).any (fun u => decide (fdiff p q (u + 1) ≠ 0)) && (List.range 6).all (fun u => decide (fdiff p q (u + 1) = 0) || decide (sgn (fdiff p q (u + 1)) = sgn (rank p - rank q))) && (decide (p.2 ≠ q.2) || decide (sgn ((p.1 : Int) - q.1) = sgn (rank p - rank q))))
theorem chk_all : Gs.all (fun p => Gs.all (fun q => chk p q)) = true := by decide +kernel
theorem chk_of {p q : Nat × Nat} (hp : p ∈ Gs) (hq : q ∈ Gs) : chk p q = true := List.all_eq_true.mp (List.all_eq_true.mp chk_all p hp) q hq
theorem gs_small : ∀ p ∈ Gs, 1 ≤ p.1 ∧ p.1 ≤ 512 ∧ (p.2 = 2 ∨ p.2 = 3) ∧ (p.2 = 3 → p.1 % 3 ≠ 0 ∨ p.1 = 6) ∧ (p.2 = 3 → p.1 ≠ 1 ∧ p.1 ≠ 3 ∧ p.1 ≠ 9) := by
  have h : Gs.all (fun p => decide (1 ≤ p.1 ∧ p.1 ≤ 512 ∧ (p.2 = 2 ∨ p.2 = 3) ∧ (p.2 = 3 → p.1 % 3 ≠ 0 ∨ p.1 = 6) ∧ (p.2 = 3 → p.1 ≠ 1 ∧ p.1 ≠ 3 ∧ p.1 ≠ 9))) = true := by decide +kernel
  exact fun p hp => of_decide_eq_true (List.all_eq_true.mp h p hp)
theorem rank_nn (p : Nat × Nat) : 0 ≤ rank p := Int.natCast_nonneg _
/-- two unlike growths are told apart at a power of six at most, and the first one at which they are tells their order -/
theorem tell {p q : Nat × Nat} (hp : p ∈ Gs) (hq : q ∈ Gs) (hne : p ≠ q) :
    (∃ U, 1 ≤ U ∧ U ≤ 6 ∧ fdiff p q U ≠ 0) ∧ (∀ u, 1 ≤ u → u ≤ 6 → fdiff p q u ≠ 0 → sgn (fdiff p q u) = sgn (rank p - rank q)) ∧ (p.2 = q.2 → sgn ((p.1 : Int) - q.1) = sgn (rank p - rank q)) := by
  have h := chk_of hp hq
  unfold chk at h
  rw [decide_eq_false hne, Bool.false_or, Bool.and_eq_true, Bool.and_eq_true] at h
  obtain ⟨⟨h1, h2⟩, h3⟩ := h
  refine ⟨?_, fun u u1 u6 hu => ?_, fun he => ?_⟩
  · obtain ⟨u, hu, hd⟩ := List.any_eq_true.mp h1
    have := List.mem_range.mp hu
    exact ⟨u + 1, by omega, by omega, of_decide_eq_true hd⟩
  · have := List.all_eq_true.mp h2 (u - 1) (List.mem_range.mpr (by omega))
    rw [show u - 1 + 1 = u by omega, decide_eq_false hu, Bool.false_or] at this
    exact of_decide_eq_true this
  · rw [decide_eq_false (fun z => z he), Bool.false_or] at h3
    exact of_decide_eq_true h3
theorem sgn_ne {n : Int} (h : sgn n ≠ 0) : n ≠ 0 := fun e => h (by rw [e]; rfl)
abbrev Gr := Option ((Nat × Nat) × Nat)
def encG : Gr → D
  | none => .non
  | some (p, f) => .tup [.int p.1, .int p.2, .int f]
def GOk : Gr → Prop
  | none => True
  | some (p, f) => p ∈ Gs ∧ f ≤ 10
def gval : Gr → Int
  | none => 0
  | some (p, f) => 1 + rank p * 16 + f
theorem gval_ne {p q : Nat × Nat} {f g : Nat} (hp : p ∈ Gs) (hq : q ∈ Gs) (hf : f ≤ 10) (hg : g ≤ 10) (hne : p ≠ q) : sgn (gval (some (p, f)) - gval (some (q, g))) = sgn (rank p - rank q) ∧ sgn (rank p - rank q) ≠ 0 := by
  obtain ⟨⟨U, u1, u2, hU⟩, h2, _⟩ := tell hp hq hne
  have e := h2 U u1 u2 hU
  have hz : sgn (rank p - rank q) ≠ 0 := by
    rw [← e]
    rcases sgn_cases (fdiff p q U) with ⟨_, h⟩ | ⟨h, _⟩ | ⟨_, h⟩
    · rw [h]; decide
    · exact absurd h hU
    · rw [h]; decide
  refine ⟨?_, hz⟩
  show sgn (1 + rank p * 16 + f - (1 + rank q * 16 + g)) = _
  rcases sgn_cases (rank p - rank q) with ⟨h, k⟩ | ⟨h, k⟩ | ⟨h, k⟩
  · rw [k, sgn_neg (by omega)]
  · exact absurd k hz
  · rw [k, sgn_pos (by omega)]
theorem gval_eq {p : Nat × Nat} {f g : Nat} : gval (some (p, f)) - gval (some (p, g)) = (f : Int) - g := by
  show 1 + rank p * 16 + f - (1 + rank p * 16 + g) = _
  omega
theorem gval_some {p : Nat × Nat} {f : Nat} : 0 < gval (some (p, f)) := by
  have := rank_nn p
  show 0 < 1 + rank p * 16 + (f : Int)
  omega
/-- the order of growths is that of numbers -/
theorem ord_turn (x y : Int) : sgn (x - y) = 0 - sgn (y - x) := by
  rcases sgn_cases (x - y) with ⟨h, k⟩ | ⟨h, k⟩ | ⟨h, k⟩
  · rw [k, sgn_pos (by omega)]; rfl
  · rw [k, show y - x = 0 by omega]; rfl
  · rw [k, sgn_neg (by omega)]; rfl
theorem ord_three (x y z : Int) (h : 0 ≤ sgn (x - y)) : sgn (y - z) < 0 ∨ 0 ≤ sgn (x - z) := by
  rcases sgn_cases (x - y) with ⟨h1, k1⟩ | ⟨h1, k1⟩ | ⟨h1, k1⟩ <;> rcases sgn_cases (y - z) with ⟨h2, k2⟩ | ⟨h2, k2⟩ | ⟨h2, k2⟩ <;> rcases sgn_cases (x - z) with ⟨h3, k3⟩ | ⟨h3, k3⟩ | ⟨h3, k3⟩ <;> omega
theorem pow_small {p : Nat × Nat} {u : Nat} (hp : p ∈ Gs) (hu : u ≤ 60) : 1 ≤ p.1 ^ u ∧ p.1 ^ u < 2 ^ 700 := by
  obtain ⟨h1, h2, _⟩ := gs_small p hp
  refine ⟨Nat.pow_pos h1, ?_⟩
  have a : p.1 ^ u ≤ 512 ^ u := Nat.pow_le_pow_left h2 u
  have b : 512 ^ u ≤ 512 ^ 60 := Nat.pow_le_pow_right (by decide) hu
  have c : 512 ^ 60 < 2 ^ 700 := by decide +kernel
  omega
theorem flog_spec {p : Nat × Nat} {u : Nat} (hp : p ∈ Gs) (hu : u ≤ 60) : p.2 ^ flog p.2 (p.1 ^ u) ≤ p.1 ^ u ∧ p.1 ^ u < p.2 ^ (flog p.2 (p.1 ^ u) + 1) := by
  obtain ⟨h1, h2⟩ := pow_small hp hu
  obtain ⟨_, _, h3, _⟩ := gs_small p hp
  exact flogF_spec 700 _ _ (by omega) h1 h2
/-! ### promises -/
def spSign : Sp := fun vs H Q _ => ∃ n : Int, vs = [.int n] ∧ Q (.int (sgn n)) H
def spPower : Sp := fun vs H Q _ => ∃ (b : Int) (e : Nat), vs = [.int b, .int e] ∧ -(2 ^ 64) < b ∧ b < 2 ^ 64 ∧ e ≤ 1000 ∧ Q (.int (b ^ e)) H
def spToldG : Sp := fun vs H Q _ => ∃ (p : Nat × Nat) (f : Nat), vs = [.int p.1, .int p.2, .int f] ∧ p ∈ Gs ∧ ∀ v H', Same H H' → Rp H' v (encG (some (p, f))) → Q v H'
def spWhole : Sp := fun vs H Q _ => ∃ (v : V) (p : Nat × Nat) (f u : Nat), vs = [v, .int u] ∧ Rp H v (encG (some (p, f))) ∧ p ∈ Gs ∧ 1 ≤ u ∧ u ≤ 60 ∧ Q (.int (flog p.2 (p.1 ^ u))) H
def spRoot : Sp := fun vs H Q _ => ∃ (p : Nat × Nat) (u : Nat), vs = [.int p.1, .int p.2, .int u] ∧ p ∈ Gs ∧ 1 ≤ u ∧ u ≤ 60 ∧ Q (.int (flog p.2 (p.1 ^ u))) H
def spOrder : Sp := fun vs H Q _ => ∃ (v w : V) (p q : Nat × Nat) (f g : Nat), vs = [v, w] ∧ Rp H v (encG (some (p, f))) ∧ Rp H w (encG (some (q, g))) ∧ p ∈ Gs ∧ q ∈ Gs ∧ Q (.int (sgn (rank p - rank q))) H
def spGreater : Sp := fun vs H Q _ => ∃ (v w : V) (g h : Gr), vs = [v, w] ∧ Rp H v (encG g) ∧ Rp H w (encG h) ∧ GOk g ∧ GOk h ∧ ∀ H', Same H H' → Q (.int (sgn (gval g - gval h))) H'
def spDrawnG : Sp := fun vs H Q _ => ∃ (d L : Addr), vs = [.ref d] ∧ Dr H d L ∧ ∀ (v : V) (g : Gr) (H' : Hp), Rp H' v (encG g) → GOk g → Dr H' d L → Go (· = d) H H' → Q v H'
end OG

set_option Elab.async false
set_option linter.all false
set_option maxRecDepth 100000
set_option maxHeartbeats 4000000
namespace OG
open PySem PySem.Spec PyProof.Rows L2
/-! ### a comprehension over a list, its element a call that leaves all as it was -/
theorem lc_list_map {K : PySem.W.Frag} {a : Addr} {xs : List V} {g : TG} {te : TE} {vs : List Nat} {σ : L2.St} {H1 : Hp} {D : Addr} {Qd : Hp → Prop} (ys : List V) (i0 : Nat) (hg : g = gName i0) (hw : ∀ v, wipe ((wipe σ vs).set i0 v) vs = wipe σ vs)
    (hlen : ys.length = xs.length) (hz : xs.length < 100000) (hS : H1 a = some (.lst xs)) (hD : H1 D = none)
    (he : ∀ (i : Nat) (x y : V) (H2 : Hp) (Q : VK), xs[i]? = some x → ys[i]? = some y → Same H1 H2 → (∀ H3, Same H2 H3 → Q y H3) → te ((wipe σ vs).set i0 (some x)) H2 Q)
    (hd : ∀ H', Same H1 H' → H' D = some (.lst ys) → Qd H') :
    ∃ W : Nat → Nat → Hp → Prop, (∃ m, W 0 m (upd H1 D (.lst []))) ∧ ∀ i m H, W i m H →
      ((Itl K a).stop i H ∧ Qd H) ∨ ((Itl K a).go i H ∧ ∃ Nx : Hp → Prop, (∀ H', Nx H' → ∃ m', m' < m ∧ W (i + 1) m' H') ∧ ∀ x H', (Itl K a).yld i H x H' → g x (wipe σ vs) H' fun σ2 H2 => wipe σ2 vs = wipe σ vs ∧ tYes σ2 H2 fun b H3 =>
        if b = true then te σ2 H3 fun y H4 => ∃ acc, H4 D = some (.lst acc) ∧ acc.length < sizeLine ∧ Nx (upd H4 D (.lst (acc ++ [y]))) else Nx H3) := by
  subst hg
  refine lc_list (xs := xs) (fun i H' => Same H1 H' ∧ H' D = some (.lst (ys.take i))) ⟨same_new hD, upd_same⟩ (fun i H' hi hP => SqL.of (hP.1 _ _ hS)) (fun i x H' hx hP => ?_) (fun H' hP => ?_)
  · obtain ⟨sm, hl⟩ := hP
    have hi : i < ys.length := by
      rw [hlen]
      obtain ⟨h, _⟩ := List.getElem?_eq_some_iff.mp hx
      exact h
    refine ⟨hw _, yes_go ?_⟩
    refine he i x ys[i] H' _ hx (List.getElem?_eq_getElem hi) sm fun H3 s3 => ?_
    refine ⟨ys.take i, s3 _ _ hl, ?_, Same.upd_new (sm.trans s3) hD, ?_⟩
    · rw [List.length_take]
      exact szl (by omega)
    · rw [upd_same, List.take_add_one, List.getElem?_eq_getElem hi]
      rfl
  · obtain ⟨sm, hl⟩ := hP
    rw [← hlen, List.take_length] at hl
    exact hd H' sm hl
/-- two lists of like flat values -/
theorem eq2_flats {H : Hp} {p q : Addr} {vs : List V} (n : Nat) (hp : H p = some (.lst vs)) (hq : H q = some (.lst vs)) (hf : vs.all flatV = true) (hl : vs.length < 100000) : Eq2 H (n + 1) (.ref p) (.ref q) :=
  .inr ⟨p, q, vs, vs, rfl, rfl, .inr ⟨hp, hq⟩, rfl, hl, fun k x y hx hy => by
    have e : x = y := Option.some.inj (hx.symm.trans hy)
    subst e
    exact Eq2.flat (List.all_eq_true.mp hf x (List.mem_of_getElem? hx)) n⟩
theorem atI_get {α : Type} {xs : List α} {i : Nat} {x : α} (h : xs[i]? = some x) : atI xs ((i : Nat) : Int) = some x := atI_nat h
/-! ### rows of an order -/
def rowL (xs : List Int) (x : Int) : List V := xs.map fun y => V.int (sgn (x - y))
theorem rowL_len (xs : List Int) (x : Int) : (rowL xs x).length = xs.length := List.length_map _
theorem rowL_get {xs : List Int} {x y : Int} {i : Nat} (h : xs[i]? = some y) : (rowL xs x)[i]? = some (.int (sgn (x - y))) := by
  unfold rowL
  rw [List.getElem?_map, h]
  rfl
theorem rowL_flat (xs : List Int) (x : Int) : (rowL xs x).all flatV = true := by
  rw [List.all_eq_true]
  intro v hv
  obtain ⟨y, _, rfl⟩ := List.mem_map.mp hv
  rfl
theorem rpl_gr {H : Hp} {vs : List V} {gs : List Gr} (h : RpL H vs (gs.map encG)) {i : Nat} {x : V} (hx : vs[i]? = some x) : ∃ g, gs[i]? = some g ∧ Rp H x (encG g) := by
  obtain ⟨d, hd, hr⟩ := h.get hx
  rw [List.getElem?_map] at hd
  cases ht : gs[i]? with
  | none => rw [ht] at hd; cases hd
  | some t =>
    rw [ht] at hd
    have : encG t = d := Option.some.inj hd
    exact ⟨t, rfl, this ▸ hr⟩
theorem gvals_get {gs : List Gr} {i : Nat} {g : Gr} (h : gs[i]? = some g) : (gs.map gval)[i]? = some (gval g) := by
  rw [List.getElem?_map, h]
  rfl
/-- the rows of marks made so far -/
def Marks (H : Hp) (M : Addr) (xs : List Int) (rs : List Addr) : Prop := H M = some (.lst (rs.map V.ref)) ∧ ∀ (j : Nat) (r : Addr), rs[j]? = some r → ∃ x, xs[j]? = some x ∧ H r = some (.lst (rowL xs x))
theorem Marks.same {H H' : Hp} {M : Addr} {xs : List Int} {rs : List Addr} (h : Marks H M xs rs) (s : Same H H') : Marks H' M xs rs :=
  ⟨s _ _ h.1, fun j r hj => by
    obtain ⟨x, h1, h2⟩ := h.2 j r hj
    exact ⟨x, h1, s _ _ h2⟩⟩
end OG

set_option Elab.async false
set_option linter.all false
set_option maxRecDepth 100000
set_option maxHeartbeats 4000000
namespace K15
open PySem PySem.Spec PyProof.Rows L2 OG
open C8 (pss_cut pe_gc)
def topS (i : Nat) : Stmt := PySem.Challenge.pw_outgrow_k15_whole_growths_are_ordered.main.body.getD i (.Pass ⟨0, 0, 0, 0⟩)
abbrev ssign_of : Stmt := topS 1
abbrev Nsign_of : List Str := ["number"]
theorem scsign_of : FnScope Nsign_of ["number"] (defScope ssign_of) := ⟨rfl, rfl, rfl, by decide +kernel, rfl, by decide +kernel, by decide +kernel⟩

abbrev spower : Stmt := topS 2
abbrev Npower : List Str := ["base", "exponent", "total", "turn"]
theorem scpower : FnScope Npower ["base", "exponent"] (defScope spower) := ⟨rfl, rfl, rfl, by decide +kernel, rfl, by decide +kernel, by decide +kernel⟩

abbrev stold_growth : Stmt := topS 4
abbrev Ntold_growth : List Str := ["times", "base", "figures", "halves", "rest"]
theorem sctold_growth : FnScope Ntold_growth ["times", "base", "figures"] (defScope stold_growth) := ⟨rfl, rfl, rfl, by decide +kernel, rfl, by decide +kernel, by decide +kernel⟩

abbrev sgreater_growth : Stmt := topS 5
abbrev Ngreater_growth : List Str := ["one", "other", "order"]
theorem scgreater_growth : FnScope Ngreater_growth ["one", "other"] (defScope sgreater_growth) := ⟨rfl, rfl, rfl, by decide +kernel, rfl, by decide +kernel, by decide +kernel⟩

abbrev spower_order : Stmt := topS 6
abbrev Npower_order : List Str := ["one", "other", "times", "order"]
theorem scpower_order : FnScope Npower_order ["one", "other"] (defScope spower_order) := ⟨rfl, rfl, rfl, by decide +kernel, rfl, by decide +kernel, by decide +kernel⟩

abbrev swhole_power : Stmt := topS 7
abbrev Nwhole_power : List Str := ["told", "times", "wanted", "found", "reached"]
theorem scwhole_power : FnScope Nwhole_power ["told", "times"] (defScope swhole_power) := ⟨rfl, rfl, rfl, by decide +kernel, rfl, by decide +kernel, by decide +kernel⟩

abbrev sl_begin : Stmt := topS 9
abbrev Nl_begin : List Str := ["_law_script"]
theorem scl_begin : FnScope Nl_begin ["_law_script"] (defScope sl_begin) := ⟨rfl, rfl, rfl, by decide +kernel, rfl, by decide +kernel, by decide +kernel⟩

abbrev sl_take : Stmt := topS 10
abbrev Nl_take : List Str := ["_law_draw", "_law_sides", "_law_cell", "_law_got"]
theorem scl_take : FnScope Nl_take ["_law_draw", "_law_sides"] (defScope sl_take) := ⟨rfl, rfl, rfl, by decide +kernel, rfl, by decide +kernel, by decide +kernel⟩

abbrev sl_raised : Stmt := topS 11
abbrev Nl_raised : List Str := ["_law_part", "_law_upto", "_law_found", "_law_k"]
theorem scl_raised : FnScope Nl_raised ["_law_part", "_law_upto"] (defScope sl_raised) := ⟨rfl, rfl, rfl, by decide +kernel, rfl, by decide +kernel, by decide +kernel⟩

abbrev sl_pick : Stmt := topS 12
abbrev Nl_pick : List Str := ["_law_draw", "_law_row"]
theorem scl_pick : FnScope Nl_pick ["_law_draw", "_law_row"] (defScope sl_pick) := ⟨rfl, rfl, rfl, by decide +kernel, rfl, by decide +kernel, by decide +kernel⟩

abbrev sl_drawn_growth : Stmt := topS 13
abbrev Nl_drawn_growth : List Str := ["_law_draw", "_law_fork", "_law_figures"]
theorem scl_drawn_growth : FnScope Nl_drawn_growth ["_law_draw"] (defScope sl_drawn_growth) := ⟨rfl, rfl, rfl, by decide +kernel, rfl, by decide +kernel, by decide +kernel⟩

abbrev sl_same : Stmt := topS 14
abbrev Nl_same : List Str := ["_law_found", "_law_due", "_law_one", "_law_other"]
theorem scl_same : FnScope Nl_same ["_law_found", "_law_due"] (defScope sl_same) := ⟨rfl, rfl, rfl, by decide +kernel, rfl, by decide +kernel, by decide +kernel⟩

abbrev sl_signum : Stmt := topS 15
abbrev Nl_signum : List Str := ["_law_number"]
theorem scl_signum : FnScope Nl_signum ["_law_number"] (defScope sl_signum) := ⟨rfl, rfl, rfl, by decide +kernel, rfl, by decide +kernel, by decide +kernel⟩

abbrev sl_whole_root : Stmt := topS 16
abbrev Nl_whole_root : List Str := ["_law_times_of", "_law_by_it", "_law_upto", "_law_found", "_law_number"]
theorem scl_whole_root : FnScope Nl_whole_root ["_law_times_of", "_law_by_it", "_law_upto"] (defScope sl_whole_root) := ⟨rfl, rfl, rfl, by decide +kernel, rfl, by decide +kernel, by decide +kernel⟩

abbrev sl_greater : Stmt := topS 17
abbrev Nl_greater : List Str := ["_law_one", "_law_other", "_law_upto", "_law_far"]
theorem scl_greater : FnScope Nl_greater ["_law_one", "_law_other"] (defScope sl_greater) := ⟨rfl, rfl, rfl, by decide +kernel, rfl, by decide +kernel, by decide +kernel⟩

abbrev slaw : Stmt := topS 18
abbrev Nlaw : List Str := ["_law_script", "_law_draw", "_law_turn", "_law_some", "_law_marks", "_law_one", "_law_a", "_law_row", "_law_b", "_law_k", "_law_other", "_law_c"]
theorem sclaw : FnScope Nlaw ["_law_script"] (defScope slaw) := ⟨rfl, rfl, rfl, by decide +kernel, rfl, by decide +kernel, by decide +kernel⟩

structure Tops (K : PySem.W.Frag) (mg : Str → Option Value) where
  fsign_of : Addr
  dsign_of : FuncData
  Fsign_of : Fun K "sign_of" "sign_of" ssign_of fsign_of dsign_of
  gsign_of : mg "sign_of" = some (.ref fsign_of)
  fpower : Addr
  dpower : FuncData
  Fpower : Fun K "power" "power" spower fpower dpower
  gpower : mg "power" = some (.ref fpower)
  ftold_growth : Addr
  dtold_growth : FuncData
  Ftold_growth : Fun K "told_growth" "told_growth" stold_growth ftold_growth dtold_growth
  gtold_growth : mg "told_growth" = some (.ref ftold_growth)
  fgreater_growth : Addr
  dgreater_growth : FuncData
  Fgreater_growth : Fun K "greater_growth" "greater_growth" sgreater_growth fgreater_growth dgreater_growth
  ggreater_growth : mg "greater_growth" = some (.ref fgreater_growth)
  fpower_order : Addr
  dpower_order : FuncData
  Fpower_order : Fun K "power_order" "power_order" spower_order fpower_order dpower_order
  gpower_order : mg "power_order" = some (.ref fpower_order)
  fwhole_power : Addr
  dwhole_power : FuncData
  Fwhole_power : Fun K "whole_power" "whole_power" swhole_power fwhole_power dwhole_power
  gwhole_power : mg "whole_power" = some (.ref fwhole_power)
  fl_begin : Addr
  dl_begin : FuncData
  Fl_begin : Fun K "_law_begin" "_law_begin" sl_begin fl_begin dl_begin
  gl_begin : mg "_law_begin" = some (.ref fl_begin)
  fl_take : Addr
  dl_take : FuncData
  Fl_take : Fun K "_law_take" "_law_take" sl_take fl_take dl_take
  gl_take : mg "_law_take" = some (.ref fl_take)
  fl_raised : Addr
  dl_raised : FuncData
  Fl_raised : Fun K "_law_raised" "_law_raised" sl_raised fl_raised dl_raised
  gl_raised : mg "_law_raised" = some (.ref fl_raised)
  fl_pick : Addr
  dl_pick : FuncData
  Fl_pick : Fun K "_law_pick" "_law_pick" sl_pick fl_pick dl_pick
  gl_pick : mg "_law_pick" = some (.ref fl_pick)
  fl_drawn_growth : Addr
  dl_drawn_growth : FuncData
  Fl_drawn_growth : Fun K "_law_drawn_growth" "_law_drawn_growth" sl_drawn_growth fl_drawn_growth dl_drawn_growth
  gl_drawn_growth : mg "_law_drawn_growth" = some (.ref fl_drawn_growth)
  fl_same : Addr
  dl_same : FuncData
  Fl_same : Fun K "_law_same" "_law_same" sl_same fl_same dl_same
  gl_same : mg "_law_same" = some (.ref fl_same)
  fl_signum : Addr
  dl_signum : FuncData
  Fl_signum : Fun K "_law_signum" "_law_signum" sl_signum fl_signum dl_signum
  gl_signum : mg "_law_signum" = some (.ref fl_signum)
  fl_whole_root : Addr
  dl_whole_root : FuncData
  Fl_whole_root : Fun K "_law_whole_root" "_law_whole_root" sl_whole_root fl_whole_root dl_whole_root
  gl_whole_root : mg "_law_whole_root" = some (.ref fl_whole_root)
  fl_greater : Addr
  dl_greater : FuncData
  Fl_greater : Fun K "_law_greater" "_law_greater" sl_greater fl_greater dl_greater
  gl_greater : mg "_law_greater" = some (.ref fl_greater)
  flaw : Addr
  dlaw : FuncData
  Flaw : Fun K "law" "law" slaw flaw dlaw
  glaw : mg "law" = some (.ref flaw)
  mabs : mg "abs" = none
  mall : mg "all" = none
  mbool : mg "bool" = none
  mint : mg "int" = none
  misinstance : mg "isinstance" = none
  mlen : mg "len" = none
  mlist : mg "list" = none
  mrange : mg "range" = none
  mstr : mg "str" = none
  mtuple : mg "tuple" = none
  mzip : mg "zip" = none
theorem Tops.bsign_of {K : PySem.W.Frag} {mg : Str → Option Value} (T : Tops K mg) : Binds K T.dsign_of ["number"] [] := T.Fsign_of.binds (ps := ["number"]) fun _ _ _ _ _ _ us hl => match us, hl with | [_], _ => rfl
theorem Tops.bpower {K : PySem.W.Frag} {mg : Str → Option Value} (T : Tops K mg) : Binds K T.dpower ["base", "exponent"] [] := T.Fpower.binds (ps := ["base", "exponent"]) fun _ _ _ _ _ _ us hl => match us, hl with | [_, _], _ => rfl
theorem Tops.btold_growth {K : PySem.W.Frag} {mg : Str → Option Value} (T : Tops K mg) : Binds K T.dtold_growth ["times", "base", "figures"] [] := T.Ftold_growth.binds (ps := ["times", "base", "figures"]) fun _ _ _ _ _ _ us hl => match us, hl with | [_, _, _], _ => rfl
theorem Tops.bgreater_growth {K : PySem.W.Frag} {mg : Str → Option Value} (T : Tops K mg) : Binds K T.dgreater_growth ["one", "other"] [] := T.Fgreater_growth.binds (ps := ["one", "other"]) fun _ _ _ _ _ _ us hl => match us, hl with | [_, _], _ => rfl
theorem Tops.bpower_order {K : PySem.W.Frag} {mg : Str → Option Value} (T : Tops K mg) : Binds K T.dpower_order ["one", "other"] [] := T.Fpower_order.binds (ps := ["one", "other"]) fun _ _ _ _ _ _ us hl => match us, hl with | [_, _], _ => rfl
theorem Tops.bwhole_power {K : PySem.W.Frag} {mg : Str → Option Value} (T : Tops K mg) : Binds K T.dwhole_power ["told", "times"] [] := T.Fwhole_power.binds (ps := ["told", "times"]) fun _ _ _ _ _ _ us hl => match us, hl with | [_, _], _ => rfl
theorem Tops.bl_begin {K : PySem.W.Frag} {mg : Str → Option Value} (T : Tops K mg) : Binds K T.dl_begin ["_law_script"] [] := T.Fl_begin.binds (ps := ["_law_script"]) fun _ _ _ _ _ _ us hl => match us, hl with | [_], _ => rfl
theorem Tops.bl_take {K : PySem.W.Frag} {mg : Str → Option Value} (T : Tops K mg) : Binds K T.dl_take ["_law_draw", "_law_sides"] [] := T.Fl_take.binds (ps := ["_law_draw", "_law_sides"]) fun _ _ _ _ _ _ us hl => match us, hl with | [_, _], _ => rfl
theorem Tops.bl_raised {K : PySem.W.Frag} {mg : Str → Option Value} (T : Tops K mg) : Binds K T.dl_raised ["_law_part", "_law_upto"] [] := T.Fl_raised.binds (ps := ["_law_part", "_law_upto"]) fun _ _ _ _ _ _ us hl => match us, hl with | [_, _], _ => rfl
theorem Tops.bl_pick {K : PySem.W.Frag} {mg : Str → Option Value} (T : Tops K mg) : Binds K T.dl_pick ["_law_draw", "_law_row"] [] := T.Fl_pick.binds (ps := ["_law_draw", "_law_row"]) fun _ _ _ _ _ _ us hl => match us, hl with | [_, _], _ => rfl
theorem Tops.bl_drawn_growth {K : PySem.W.Frag} {mg : Str → Option Value} (T : Tops K mg) : Binds K T.dl_drawn_growth ["_law_draw"] [] := T.Fl_drawn_growth.binds (ps := ["_law_draw"]) fun _ _ _ _ _ _ us hl => match us, hl with | [_], _ => rfl
theorem Tops.bl_same {K : PySem.W.Frag} {mg : Str → Option Value} (T : Tops K mg) : Binds K T.dl_same ["_law_found", "_law_due"] [] := T.Fl_same.binds (ps := ["_law_found", "_law_due"]) fun _ _ _ _ _ _ us hl => match us, hl with | [_, _], _ => rfl
theorem Tops.bl_signum {K : PySem.W.Frag} {mg : Str → Option Value} (T : Tops K mg) : Binds K T.dl_signum ["_law_number"] [] := T.Fl_signum.binds (ps := ["_law_number"]) fun _ _ _ _ _ _ us hl => match us, hl with | [_], _ => rfl
theorem Tops.bl_whole_root {K : PySem.W.Frag} {mg : Str → Option Value} (T : Tops K mg) : Binds K T.dl_whole_root ["_law_times_of", "_law_by_it", "_law_upto"] [] := T.Fl_whole_root.binds (ps := ["_law_times_of", "_law_by_it", "_law_upto"]) fun _ _ _ _ _ _ us hl => match us, hl with | [_, _, _], _ => rfl
theorem Tops.bl_greater {K : PySem.W.Frag} {mg : Str → Option Value} (T : Tops K mg) : Binds K T.dl_greater ["_law_one", "_law_other"] [] := T.Fl_greater.binds (ps := ["_law_one", "_law_other"]) fun _ _ _ _ _ _ us hl => match us, hl with | [_, _], _ => rfl
theorem Tops.blaw {K : PySem.W.Frag} {mg : Str → Option Value} (T : Tops K mg) : ∀ (s : Shared) (v : Value), BindsTo s T.dlaw ⟨[v], []⟩ [("_law_script", v)] := by
  obtain ⟨oc, od, kV, doc, pm, an, cdv, ct, osl, e, lk, hcd⟩ := T.Flaw.ex
  intro s v
  rw [e]
  exact .of_eq rfl
section
variable {P : Program} {w : World} {K : PySem.W.Frag} {mg : Str → Option Value} {base : Heap}
theorem ok_begin (T : Tops K mg) : FnOk P w K mg base CX0 1 T.fl_begin T.dl_begin ["_law_script"] (spBegin K) := by
  refine T.Fl_begin.ok scl_begin (fun vs H Q E h => ?_) (fun cdv A outer s H vs Q E hr h => ?_)
  · obtain ⟨a, ns, rfl, _⟩ := h
    rfl
  obtain ⟨a, ns, rfl, hS, q⟩ := h
  refine ⟨_, (pss_one (ps_ret (pe_lst (pa_cons (pe_callTy call_list_of (by rfl) T.mlist (by decide +kernel) (pa_cons (pe_slice sl_list (pv 0) po_none (po_some pe_int)) pa_nil)) (pa_cons pe_int (pa_cons pe_int (pa_cons pe_int pa_nil))))))), ?_⟩
  refine ⟨_, rfl, 63, rfl, a, _, rfl, hS, fun p np => ?_⟩
  obtain ⟨ms, hms⟩ := cut_map ns none (some 63)
  refine ⟨p, _, rfl, .inl (SqL.of upd_same), fun L nL => ?_⟩
  refine ⟨(by show 4 ≤ sizeLine; decide), fun d nd => ?_⟩
  have nL0 : H L = none := (same_new np).free nL
  have s3 : Same H (upd (upd (upd H p (.lst (cutV (ns.map V.int) none (some 63)))) L (.lst (cutV (ns.map V.int) none (some 63)))) d (.lst [.ref L, .int 0, .int 0, .int 37])) :=
    ((same_new np).trans (same_new nL)).trans (same_new nd)
  have nd0 : H d = none := ((same_new np).trans (same_new nL)).free nd
  refine q d L _ s3 nd0 nL0 ⟨ms, 0, 0, 37, upd_same, ?_, by decide, by decide, by decide, by decide⟩
  rw [upd_ne (ne_of_none (upd_same) nd), upd_same, hms]
theorem ok_take (T : Tops K mg) : FnOk P w K mg base CX0 1 T.fl_take T.dl_take ["_law_draw", "_law_sides"] spTake := by
  refine T.Fl_take.ok scl_take (fun vs H Q E h => ?_) (fun cdv A outer s H vs Q E hr h => ?_)
  · obtain ⟨d, L, k, rfl, _⟩ := h
    rfl
  obtain ⟨d, L, k, rfl, hD, k1, k2, q⟩ := h
  refine ⟨_, (pss_cut (ps_if (PW.pt (pw_and (pt_cmpR op_lt (pe_ix ix_list (pv 0) pe_int (fun _ _ => rfl)) (pv 1) (nomark _)) (pw_and1 (pt_cmpR op_lt (pe_ix ix_list (pv 0) pe_int (fun _ _ => rfl)) (pe_callB call_len_seq (by rfl) T.mlen PySem.boot_len (pa_cons (pe_ix ix_list (pv 0) pe_int (fun _ _ => rfl)) pa_nil)) (nomark _)))))
  (pss_cons (ps_set (i := 2) scl_take.nd rfl (Or.inl rfl) (pe_ix ix_list (pe_ix ix_list (pv 0) pe_int (fun _ _ => rfl)) (pe_ix ix_list (pv 0) pe_int (fun _ _ => rfl)) (fun _ _ => rfl)))
 (pss_cons (ps_asg (pe_op op_add (pe_ix ix_list (pv 0) pe_int (fun _ _ => rfl)) pe_int) (pg_sub (pv 0) pe_int set_list))
 (pss_cons (ps_asg pe_int (pg_sub (pv 0) pe_int set_list))
 (pss_one (ps_if (pt_cmpR op_ge (pe_callB call_abs (by rfl) T.mabs (by decide +kernel) (pa_cons (pv 2) pa_nil)) (pe_op op_pow pe_int pe_int) (nomark _))
  (pss_one (ps_asg (pe_callB call_abs (by rfl) T.mabs (by decide +kernel) (pa_cons (pv 2) pa_nil)) (pg_sub (pv 0) pe_int set_list)))
  (pss_one (ps_asg (pe_op op_mod (pe_op op_add (pe_op op_add (pe_op op_mul (pe_ix ix_list (pv 0) pe_int (fun _ _ => rfl)) pe_int) (pe_op op_mul (pe_op op_mod (pv 2) pe_int) pe_int)) pe_int) pe_int) (pg_sub (pv 0) pe_int set_list))))))))
  pss_nil)
 (pss_cons (ps_if (pt_cmpR op_ge (pe_ix ix_list (pv 0) pe_int (fun _ _ => rfl)) (pv 1) (nomark _))
  (pss_cons (ps_set (i := 3) scl_take.nd rfl (Or.inl rfl) (pe_op op_mod (pe_ix ix_list (pv 0) pe_int (fun _ _ => rfl)) (pv 1)))
 (pss_cons (ps_asg (pe_op op_fdiv (pe_ix ix_list (pv 0) pe_int (fun _ _ => rfl)) (pv 1)) (pg_sub (pv 0) pe_int set_list))
 (pss_one (ps_ret (pv 3)))))
  pss_nil)
 (pss_cons (ps_asg (pe_op op_mod (pe_op op_add (pe_op op_add (pe_op op_mul (pe_op op_mod (pe_op op_mul (pe_ix ix_list (pv 0) pe_int (fun _ _ => rfl)) (pe_ix ix_list (pv 0) pe_int (fun _ _ => rfl))) pe_int) pe_int) (pe_op op_mul (pe_ix ix_list (pv 0) pe_int (fun _ _ => rfl)) pe_int)) pe_int) pe_int) (pg_sub (pv 0) pe_int set_list))
 (pss_one (ps_ret (pe_op op_mod (pe_op op_add (pe_op op_fdiv (pe_ix ix_list (pv 0) pe_int (fun _ _ => rfl)) pe_int) (pe_op op_mul (pe_op op_mod (pe_ix ix_list (pv 0) pe_int (fun _ _ => rfl)) pe_int) pe_int)) (pv 1))))))), ?_⟩
  have hne := hD.ne
  refine ⟨fun σ' H' => (∃ x y, σ' = [some (.ref d), some (.int k), x, y]) ∧ Dr H' d L ∧ But d H H', ?_, ?_⟩
  · obtain ⟨ns, i, r, s, hd, hL, i0, r0, s0, s1⟩ := id hD
    refine ⟨_, rfl, d, _, 2, _, rfl, rfl, SqL.of hd, rfl, _, rfl, r, k, rfl, rfl, _, rfl, ite2 (fun c1 => ?_) (fun c1 => ?_)⟩
    · refine ⟨_, rfl, d, _, 1, _, rfl, rfl, SqL.of hd, rfl, _, rfl, d, _, 0, _, rfl, rfl, SqL.of hd, rfl, L, _, rfl, .inl (SqL.of hL), i, _, rfl, rfl, _, rfl, ite2 (fun c2 => ?_) (fun c2 => ?_)⟩
      · have c3 : i < ((ns.map V.int).length : Int) := of_decide_eq_true c2
        obtain ⟨v, hv, hm⟩ := atI_lt (xs := ns.map V.int) i0 c3
        obtain ⟨n, _, rfl⟩ := List.mem_map.mp hm
        refine ⟨_, rfl, d, _, 0, _, rfl, rfl, SqL.of hd, rfl, _, rfl, d, _, 1, _, rfl, rfl, SqL.of hd, rfl, L, _, i, _, rfl, rfl, SqL.of hL, hv, ?_⟩
        refine ⟨_, rfl, d, _, 1, _, rfl, rfl, SqL.of hd, rfl, i, 1, rfl, rfl, _, rfl, d, _, 1, 1, rfl, rfl, hd, rfl, ?_⟩
        refine ⟨_, rfl, d, _, 2, 2, rfl, rfl, upd_same, rfl, ?_⟩
        rw [upd_upd]
        refine ⟨_, rfl, n, rfl, 10, 18, rfl, rfl, ⟨by decide, by decide, by decide⟩, _, _, rfl, rfl, _, rfl, ite2 (fun c4 => ?_) (fun c4 => ?_)⟩
        · refine ⟨_, rfl, n, rfl, _, rfl, d, _, 2, 2, rfl, rfl, upd_same, rfl, ?_⟩
          rw [upd_upd]
          exact ⟨⟨_, _, rfl⟩, dr_set hL hne (by omega) (by split <;> omega) s0 s1, but_upd⟩
        · refine ⟨_, rfl, d, _, 3, _, rfl, rfl, SqL.of upd_same, rfl, s, 48271, rfl, rfl, .inr ⟨by decide, by decide⟩, _, rfl, n, 2147483629, rfl, rfl, (show (0 : Int) < 2147483629 by decide), _, 69621, rfl, rfl, .inr ⟨by decide, by decide⟩, _, _, rfl, rfl, _, 12345, rfl, rfl, _, 2147483647, rfl, rfl, (show (0 : Int) < 2147483647 by decide), _, rfl, d, _, 3, 3, rfl, rfl, upd_same, rfl, ?_⟩
          rw [upd_upd]
          have z := mod_lt (a := s * 48271 + n % 2147483629 * 69621 + 12345) (k := 2147483647) (by decide)
          exact ⟨⟨_, _, rfl⟩, dr_set hL hne (by omega) (Int.le_refl 0) z.1 z.2, but_upd⟩
      · exact ⟨⟨_, _, rfl⟩, hD, But.refl d H⟩
    · exact ⟨⟨_, _, rfl⟩, hD, But.refl d H⟩
  · rintro σ' H' ⟨⟨x, y, rfl⟩, hD', hB⟩
    obtain ⟨ns, i, r, s, hd, hL, i0, r0, s0, s1⟩ := id hD'
    refine ⟨_, rfl, d, _, 2, _, rfl, rfl, SqL.of hd, rfl, _, rfl, r, k, rfl, rfl, _, rfl, ite2 (fun c1 => ?_) (fun c1 => ?_)⟩
    · refine ⟨_, rfl, d, _, 2, _, rfl, rfl, SqL.of hd, rfl, _, rfl, r, k, rfl, rfl, (show (0 : Int) < k by omega), ?_⟩
      refine ⟨_, rfl, d, _, 2, _, rfl, rfl, SqL.of hd, rfl, _, rfl, r, k, rfl, rfl, ⟨by omega, k2⟩, _, rfl, d, _, 2, 2, rfl, rfl, hd, rfl, ?_⟩
      have z := mod_lt (a := r) k1
      refine ⟨_, rfl, q _ _ z.1 z.2 (dr_set hL hne i0 (Int.ediv_nonneg r0 (by omega)) s0 s1) (hB.trans but_upd)⟩
    · refine ⟨_, rfl, d, _, 3, _, rfl, rfl, SqL.of hd, rfl, _, rfl, d, _, 3, _, rfl, rfl, SqL.of hd, rfl, s, s, rfl, rfl, .inl ⟨by omega, by omega⟩, _, 2147483629, rfl, rfl, (show (0 : Int) < 2147483629 by decide), _, 5, rfl, rfl, .inr ⟨by decide, by decide⟩,
        _, rfl, d, _, 3, _, rfl, rfl, SqL.of hd, rfl, s, 16811, rfl, rfl, .inr ⟨by decide, by decide⟩, _, _, rfl, rfl, _, 2531011, rfl, rfl, _, 2147483647, rfl, rfl, (show (0 : Int) < 2147483647 by decide), _, rfl, d, _, 3, 3, rfl, rfl, hd, rfl, ?_⟩
      have z := mod_lt (a := s * s % 2147483629 * 5 + s * 16811 + 2531011) (k := 2147483647) (by decide)
      refine ⟨_, rfl, d, _, 3, _, rfl, rfl, SqL.of upd_same, rfl, _, 61, rfl, rfl, ⟨by decide, by decide⟩, _, rfl, d, _, 3, _, rfl, rfl, SqL.of upd_same, rfl, _, 8191, rfl, rfl, (show (0 : Int) < 8191 by decide), _, 31, rfl, rfl, .inr ⟨by decide, by decide⟩, _, _, rfl, rfl, _, rfl, _, k, rfl, rfl, (show (0 : Int) < k by omega), ?_⟩
      exact q _ _ (mod_lt k1).1 (mod_lt k1).2 (dr_set hL hne i0 r0 z.1 z.2) (hB.trans but_upd)
theorem ok_pick (T : Tops K mg) : FnOk P w K mg base CX0 2 T.fl_pick T.dl_pick ["_law_draw", "_law_row"] (spPick K) := by
  have Gl_take : FnOk P w K mg base CX0 1 T.fl_take T.dl_take ["_law_draw", "_law_sides"] spTake := ok_take T
  refine T.Fl_pick.ok scl_pick (fun vs H Q E h => ?_) (fun cdv A outer s H vs Q E hr h => ?_)
  · obtain ⟨d, L, x, n, rfl, _⟩ := h
    rfl
  obtain ⟨d, L, x, n, rfl, hD, n0, n1, q⟩ := h
  refine ⟨_, (pss_one (ps_ret (pe_ix ix_seq (pv 1) (pe_call Gl_take (hr.mono (by omega)) (by rfl) T.gl_take T.Fl_take.kp T.bl_take .nil pass0 (pa_cons (pv 0) (pa_cons (pe_callB call_len (by rfl) T.mlen PySem.boot_len (pa_cons (pv 1) pa_nil)) pa_nil))) (fun _ _ => rfl)))), ?_⟩
  rcases q with ⟨z, rfl, rfl, q⟩ | ⟨a, xs, rfl, na, hS, rfl, q⟩
  · refine ⟨_, rfl, _, rfl, _, rfl, .str z, z.length, rfl, ⟨sz (by omega), rfl⟩, d, L, (z.length : Int), rfl, hD, by omega, by omega, fun g H' g0 g1 hD' hB => ?_⟩
    have e := len_tl z
    obtain ⟨c, hc, hm⟩ := atI_lt (xs := tl z) g0 (by omega)
    exact .inr (.inr ⟨z, g, c, rfl, rfl, sz (by omega), hc, q c H' hm hD' hB⟩)
  · refine ⟨_, rfl, _, rfl, _, rfl, .ref a, xs.length, rfl, .inl ⟨xs, hS, rfl⟩, d, L, (xs.length : Int), rfl, hD, by omega, by omega, fun g H' g0 g1 hD' hB => ?_⟩
    obtain ⟨v, hv, hm⟩ := atI_lt (xs := xs) g0 (by omega)
    exact .inl ⟨a, xs, g, v, rfl, rfl, SqL.but hS hB na, hv, q v H' hm hD' hB⟩
end
end K15

set_option Elab.async false
set_option linter.all false
set_option maxRecDepth 100000
set_option maxHeartbeats 4000000
namespace K15
open PySem PySem.Spec PyProof.Rows L2 OG
open C8 (pss_cut pe_gc)
section
variable {P : Program} {w : World} {K : PySem.W.Frag} {mg : Str → Option Value} {base : Heap}
theorem plain_of {K : PySem.W.Frag} {v : V} (h : flatV v = true) (hn : v ≠ .non) : ∃ (t : String) (b1 b2 b3 : Bool), (∀ H', TyX K H' v (.type t)) ∧ kitB t "list" = some false ∧ kitB t "tuple" = some false ∧ kitB t "bool" = some b1 ∧ kitB t "int" = some b2 ∧ kitB t "str" = some b3 ∧ scal v v = true := by
  cases v with
  | non => exact absurd rfl hn
  | bl b => exact ⟨"bool", true, true, false, fun _ => .base (.bl b), by decide +kernel, by decide +kernel, by decide +kernel, by decide +kernel, by decide +kernel, rfl⟩
  | int i => exact ⟨"int", false, true, false, fun _ => .base (.int i), by decide +kernel, by decide +kernel, by decide +kernel, by decide +kernel, by decide +kernel, rfl⟩
  | str z => exact ⟨"str", false, false, true, fun _ => .base (.str z), by decide +kernel, by decide +kernel, by decide +kernel, by decide +kernel, by decide +kernel, rfl⟩
  | byt _ => cases h
  | flt _ => cases h
  | ref _ => cases h
  | ty _ => cases h
theorem ok_same1 (T : Tops K mg) (n : Nat) (Gl_same : FnOk P w K mg base CX0 n T.fl_same T.dl_same ["_law_found", "_law_due"] (prevS n)) : FnOk P w K mg base CX0 (n + 1) T.fl_same T.dl_same ["_law_found", "_law_due"] (spSame n) := by
  refine T.Fl_same.ok (k := n) scl_same (fun vs H Q E h => ?_) (fun cdv A outer s H vs Q E hr h => ?_)
  · obtain ⟨v, w, rfl, _⟩ := h
    rfl
  obtain ⟨v, w, rfl, hE, q⟩ := h
  refine ⟨_, (pss_cons (ps_if (pt_val (pe_callB call_isiT (by rfl) T.misinstance (by decide +kernel) (pa_cons (pv 1) (pa_cons (pe_tup (pa_cons (pe_bltn (v := .ty "list") (by rfl) T.mlist (by decide +kernel) rfl) (pa_cons (pe_bltn (v := .ty "tuple") (by rfl) T.mtuple (by decide +kernel) rfl) pa_nil))) pa_nil))))
  (pss_cons (ps_if (PW.pt (pw_or (pt_cmpR op_ne (pe_callB call_isi (by rfl) T.misinstance (by decide +kernel) (pa_cons (pv 0) (pa_cons (pe_bltn (v := .ty "list") (by rfl) T.mlist (by decide +kernel) rfl) pa_nil))) (pe_callB call_isi (by rfl) T.misinstance (by decide +kernel) (pa_cons (pv 1) (pa_cons (pe_bltn (v := .ty "list") (by rfl) T.mlist (by decide +kernel) rfl) pa_nil))) (nomark _)) (pw_or1 (pt_not (pt_val (pe_callB call_isiT (by rfl) T.misinstance (by decide +kernel) (pa_cons (pv 0) (pa_cons (pe_tup (pa_cons (pe_bltn (v := .ty "list") (by rfl) T.mlist (by decide +kernel) rfl) (pa_cons (pe_bltn (v := .ty "tuple") (by rfl) T.mtuple (by decide +kernel) rfl) pa_nil))) pa_nil))))))))
  (pss_one (ps_ret pe_bl))
  pss_nil)
 (pss_one (ps_ret (pe_and (pe_cmpR op_eq (pe_callB call_len (by rfl) T.mlen PySem.boot_len (pa_cons (pv 0) pa_nil)) (pe_callB call_len (by rfl) T.mlen PySem.boot_len (pa_cons (pv 1) pa_nil)) (nomark _)) (pe_one (pe_callB (cr_all rfl) (by rfl) T.mall (by decide +kernel) (pa_cons (pe_lc (own := [("_law_one", 2), ("_law_other", 3)]) rfl scl_same.nd (RZ.pi_zipA (by rfl) T.mzip (pa_cons (pv 0) (pa_cons (pv 1) pa_nil))) (blkOk_by (N := Nl_same) (sc := defScope sl_same) (by decide +kernel)) (fun _ _ _ _ _ => (pg_tupK (K := K) (n := 2) rfl rfl (pgs_cons (pg_name (i := 2) scl_same.nd rfl (Or.inl rfl)) (pgs_cons (pg_name (i := 3) scl_same.nd rfl (Or.inl rfl)) pgs_nil)))) (fun _ _ _ _ _ => pts_nil) (fun _ _ _ _ _ => (pe_call Gl_same (hr.mono (by omega)) (by rfl) T.gl_same T.Fl_same.kp T.bl_same .nil pass0 (pa_cons (pv 2) (pa_cons (pv 3) pa_nil))))) pa_nil)))))))
  pss_nil)
 (pss_cons (ps_if (pt_cmpR op_isN (pv 1) pe_non (nomark _))
  (pss_one (ps_ret (pe_cmpR op_isN (pv 0) pe_non (nomark _))))
  pss_nil)
 (pss_cons (ps_if (PW.pt (pw_or (pt_cmpR op_ne (pe_callB call_isi (by rfl) T.misinstance (by decide +kernel) (pa_cons (pv 0) (pa_cons (pe_bltn (v := .ty "bool") (by rfl) T.mbool (by decide +kernel) rfl) pa_nil))) (pe_callB call_isi (by rfl) T.misinstance (by decide +kernel) (pa_cons (pv 1) (pa_cons (pe_bltn (v := .ty "bool") (by rfl) T.mbool (by decide +kernel) rfl) pa_nil))) (nomark _)) (pw_or1 (pt_cmpR op_ne (pe_callB call_isi (by rfl) T.misinstance (by decide +kernel) (pa_cons (pv 0) (pa_cons (pe_bltn (v := .ty "int") (by rfl) T.mint (by decide +kernel) rfl) pa_nil))) (pe_callB call_isi (by rfl) T.misinstance (by decide +kernel) (pa_cons (pv 1) (pa_cons (pe_bltn (v := .ty "int") (by rfl) T.mint (by decide +kernel) rfl) pa_nil))) (nomark _)))))
  (pss_one (ps_ret pe_bl))
  pss_nil)
 (pss_one (ps_ret (pe_and (pe_cmpR op_eq (pe_callB call_isi (by rfl) T.misinstance (by decide +kernel) (pa_cons (pv 0) (pa_cons (pe_bltn (v := .ty "str") (by rfl) T.mstr (by decide +kernel) rfl) pa_nil))) (pe_callB call_isi (by rfl) T.misinstance (by decide +kernel) (pa_cons (pv 1) (pa_cons (pe_bltn (v := .ty "str") (by rfl) T.mstr (by decide +kernel) rfl) pa_nil))) (nomark _)) (pe_one (pe_cmpR op_eq (pv 0) (pv 1) (nomark _))))))))), ?_⟩
  have kI : ∀ (t c : String) (r : Bool), kitB t c = some r → PySem.W.kitOne K (.type t) (.type c) = some r := fun t c r h => kit_ty h
  have split : (v = w ∧ flatV v = true) ∨ ∃ (m : Nat) (a b : Addr) (vs ws : List V), n = m + 1 ∧ v = .ref a ∧ w = .ref b ∧ ((H a = some (.tup vs) ∧ H b = some (.tup ws)) ∨ (H a = some (.lst vs) ∧ H b = some (.lst ws))) ∧ vs.length = ws.length ∧ vs.length < 100000 ∧
      ∀ (i : Nat) x y, vs[i]? = some x → ws[i]? = some y → Eq2 H m x y := by
    cases n with
    | zero => exact .inl hE
    | succ m =>
      rcases hE with h | ⟨a, b, vs, ws, h⟩
      · exact .inl h
      · exact .inr ⟨m, a, b, vs, ws, rfl, h⟩
  rcases split with ⟨rfl, hf⟩ | ⟨m, a, b, vs, ws, rfl, rfl, rfl, hab, hl, hz, hi⟩
  · by_cases hn : v = .non
    · subst hn
      refine ⟨_, rfl, (by show 2 ≤ sizeLine; decide), fun p np => ?_⟩
      refine ⟨.non, p, [.ty "list", .ty "tuple"], .type "NoneType", [.type "list", .type "tuple"], false, rfl, upd_same, .cons (.ty _) (.cons (.ty _) .nil), .base .non,
        kitAny_cons (kI "NoneType" "list" false (by decide +kernel)) (fun _ => kitAny_cons (kI "NoneType" "tuple" false (by decide +kernel)) (fun _ => rfl) (fun z => nomatch z)) (fun z => nomatch z), false, rfl, iteF ?_⟩
      refine ⟨_, rfl, rfl, _, rfl, iteT ?_⟩
      exact ⟨_, rfl, rfl, q _ (same_new np)⟩
    · obtain ⟨t, b1, b2, b3, ty, k1, k2, k3, k4, k5, hs⟩ := plain_of (K := K) hf hn
      refine ⟨_, rfl, (by show 2 ≤ sizeLine; decide), fun p np => ?_⟩
      refine ⟨v, p, [.ty "list", .ty "tuple"], .type t, [.type "list", .type "tuple"], false, rfl, upd_same, .cons (.ty _) (.cons (.ty _) .nil), ty _,
        kitAny_cons (kI t "list" false k1) (fun _ => kitAny_cons (kI t "tuple" false k2) (fun _ => rfl) (fun z => nomatch z)) (fun z => nomatch z), false, rfl, iteF ?_⟩
      have dn : ¬ decide (v = V.non) = true := fun z => hn (of_decide_eq_true z)
      have same2 : ∀ b : Bool, ¬ (!decide (V.bl b = V.bl b)) = true := fun b => by rw [decide_eq_true rfl]; exact Bool.false_ne_true
      refine ⟨_, rfl, rfl, _, rfl, ite2 (fun z => absurd z dn) (fun _ => ?_)⟩
      refine ⟨_, rfl, v, .ty "bool", .type t, _, b1, rfl, .ty _, ty _, kI t "bool" b1 k3, _, rfl, v, .ty "bool", .type t, _, b1, rfl, .ty _, ty _, kI t "bool" b1 k3, rfl, _, rfl, ite2 (fun z => absurd z (same2 b1)) (fun _ => ?_)⟩
      refine ⟨_, rfl, v, .ty "int", .type t, _, b2, rfl, .ty _, ty _, kI t "int" b2 k4, _, rfl, v, .ty "int", .type t, _, b2, rfl, .ty _, ty _, kI t "int" b2 k4, rfl, _, rfl, ite2 (fun z => absurd z (same2 b2)) (fun _ => ?_)⟩
      refine ⟨_, rfl, v, .ty "str", .type t, _, b3, rfl, .ty _, ty _, kI t "str" b3 k5, _, rfl, v, .ty "str", .type t, _, b3, rfl, .ty _, ty _, kI t "str" b3 k5, rfl, _, rfl, ite2 (fun _ => ?_) (fun z => absurd (decide_eq_true rfl) z)⟩
      refine ⟨_, rfl, _, rfl, hs, ?_⟩
      rw [decide_eq_true rfl]
      exact q _ (same_new np)
  · rcases hab with ⟨ha, hb⟩ | ⟨ha, hb⟩
    · -- two tuples
      refine ⟨_, rfl, (by show 2 ≤ sizeLine; decide), fun p np => ?_⟩
      have s1 : Same H (upd H p (.tup [.ty "list", .ty "tuple"])) := same_new np
      have ka : PySem.W.kitAny K (.type "tuple") [.type "list", .type "tuple"] = some true := kitAny_cons (kI "tuple" "list" false (by decide +kernel)) (fun _ => kitAny_cons (kI "tuple" "tuple" true (by decide +kernel)) (fun z => nomatch z) (fun _ => rfl)) (fun _ => rfl)
      refine ⟨.ref b, p, [.ty "list", .ty "tuple"], .type "tuple", [.type "list", .type "tuple"], true, rfl, upd_same, .cons (.ty _) (.cons (.ty _) .nil), .base (.tup (s1 _ _ hb)), ka, true, rfl, iteT ?_⟩
      refine ⟨_, rfl, .ref a, .ty "list", .type "tuple", _, false, rfl, .ty _, .base (.tup (s1 _ _ ha)), kI "tuple" "list" false (by decide +kernel), _, rfl, .ref b, .ty "list", .type "tuple", _, false, rfl, .ty _, .base (.tup (s1 _ _ hb)), kI "tuple" "list" false (by decide +kernel), rfl, _, rfl, iteF ?_⟩
      refine ⟨_, rfl, (by show 2 ≤ sizeLine; decide), fun p2 np2 => ?_⟩
      have s2 := s1.trans (same_new (o := .tup [.ty "list", .ty "tuple"]) np2)
      refine ⟨.ref a, p2, [.ty "list", .ty "tuple"], .type "tuple", [.type "list", .type "tuple"], true, rfl, upd_same, .cons (.ty _) (.cons (.ty _) .nil), .base (.tup (s2 _ _ ha)), ka, true, rfl, iteF ?_⟩
      refine ⟨_, rfl, .ref a, vs.length, rfl, .inr ⟨_, SqT.of (s2 _ _ ha), rfl⟩, _, rfl, .ref b, ws.length, rfl, .inr ⟨_, SqT.of (s2 _ _ hb), rfl⟩, rfl, _, rfl, ite2 (fun _ => ?_) (fun z => absurd (decide_eq_true (by rw [hl])) z)⟩
      refine ⟨_, rfl, _, rfl, a, b, vs, ws, rfl, .inr ⟨SqT.of (s2 _ _ ha), SqT.of (s2 _ _ hb), fun Dn nD => ?_⟩⟩
      have nDH : H Dn = none := s2.free nD
      refine lc_it (walk_zipT (K := K) (xs := vs) (ys := ws) (n := vs.length) (by omega)) (fun i H' => Same H H' ∧ H' Dn = some (.lst ((List.replicate i true).map V.bl))) ⟨s2.trans (same_new nD), upd_same⟩ (fun i H' _ hP => ⟨SqT.of (hP.1 _ _ ha), SqT.of (hP.1 _ _ hb)⟩) (fun i x H' H'' hlt hP hY => ?_) (fun H' hP => ?_)
      · obtain ⟨sm, hD⟩ := hP
        obtain ⟨Tn, x1, x2, rfl, nT, rfl, g1, g2⟩ := hY
        have sT : Same H' (upd H' Tn (.tup [x1, x2])) := same_new nT
        refine ⟨Tn, [x1, x2], rfl, SqT.of upd_same, rfl, x1, [x2], rfl, x2, [], rfl, rfl, rfl, yes_go ?_⟩
        refine ⟨_, rfl, _, rfl, x1, x2, rfl, Eq2.same (sm.trans sT) (hi i x1 x2 g1 g2), fun H3 s3 => ?_⟩
        refine ⟨_, s3 _ _ (sT _ _ hD), ?_, Same.upd_new ((sm.trans sT).trans s3) nDH, ?_⟩
        · rw [List.length_map, List.length_replicate]
          exact szl (by omega)
        · rw [upd_same, List.replicate_succ', List.map_append]
          rfl
      · obtain ⟨sm, hD⟩ := hP
        refine ⟨Dn, List.replicate vs.length true, rfl, SqL.of hD, ?_⟩
        rw [all_trues]
        exact q _ sm
    · -- two lists
      refine ⟨_, rfl, (by show 2 ≤ sizeLine; decide), fun p np => ?_⟩
      have s1 : Same H (upd H p (.tup [.ty "list", .ty "tuple"])) := same_new np
      have ka : PySem.W.kitAny K (.type "list") [.type "list", .type "tuple"] = some true := kitAny_cons (kI "list" "list" true (by decide +kernel)) (fun z => nomatch z) (fun _ => rfl)
      refine ⟨.ref b, p, [.ty "list", .ty "tuple"], .type "list", [.type "list", .type "tuple"], true, rfl, upd_same, .cons (.ty _) (.cons (.ty _) .nil), .base (.lst (s1 _ _ hb)), ka, true, rfl, iteT ?_⟩
      refine ⟨_, rfl, .ref a, .ty "list", .type "list", _, true, rfl, .ty _, .base (.lst (s1 _ _ ha)), kI "list" "list" true (by decide +kernel), _, rfl, .ref b, .ty "list", .type "list", _, true, rfl, .ty _, .base (.lst (s1 _ _ hb)), kI "list" "list" true (by decide +kernel), rfl, _, rfl, iteF ?_⟩
      refine ⟨_, rfl, (by show 2 ≤ sizeLine; decide), fun p2 np2 => ?_⟩
      have s2 := s1.trans (same_new (o := .tup [.ty "list", .ty "tuple"]) np2)
      refine ⟨.ref a, p2, [.ty "list", .ty "tuple"], .type "list", [.type "list", .type "tuple"], true, rfl, upd_same, .cons (.ty _) (.cons (.ty _) .nil), .base (.lst (s2 _ _ ha)), ka, true, rfl, iteF ?_⟩
      refine ⟨_, rfl, .ref a, vs.length, rfl, .inl ⟨_, SqL.of (s2 _ _ ha), rfl⟩, _, rfl, .ref b, ws.length, rfl, .inl ⟨_, SqL.of (s2 _ _ hb), rfl⟩, rfl, _, rfl, ite2 (fun _ => ?_) (fun z => absurd (decide_eq_true (by rw [hl])) z)⟩
      refine ⟨_, rfl, _, rfl, a, b, vs, ws, rfl, .inl ⟨SqL.of (s2 _ _ ha), SqL.of (s2 _ _ hb), fun Dn nD => ?_⟩⟩
      have nDH : H Dn = none := s2.free nD
      refine lc_it (walk_zip (K := K) (xs := vs) (ys := ws) (n := vs.length) (by omega)) (fun i H' => Same H H' ∧ H' Dn = some (.lst ((List.replicate i true).map V.bl))) ⟨s2.trans (same_new nD), upd_same⟩ (fun i H' _ hP => ⟨SqL.of (hP.1 _ _ ha), SqL.of (hP.1 _ _ hb)⟩) (fun i x H' H'' hlt hP hY => ?_) (fun H' hP => ?_)
      · obtain ⟨sm, hD⟩ := hP
        obtain ⟨Tn, x1, x2, rfl, nT, rfl, g1, g2⟩ := hY
        have sT : Same H' (upd H' Tn (.tup [x1, x2])) := same_new nT
        refine ⟨Tn, [x1, x2], rfl, SqT.of upd_same, rfl, x1, [x2], rfl, x2, [], rfl, rfl, rfl, yes_go ?_⟩
        refine ⟨_, rfl, _, rfl, x1, x2, rfl, Eq2.same (sm.trans sT) (hi i x1 x2 g1 g2), fun H3 s3 => ?_⟩
        refine ⟨_, s3 _ _ (sT _ _ hD), ?_, Same.upd_new ((sm.trans sT).trans s3) nDH, ?_⟩
        · rw [List.length_map, List.length_replicate]
          exact szl (by omega)
        · rw [upd_same, List.replicate_succ', List.map_append]
          rfl
      · obtain ⟨sm, hD⟩ := hP
        refine ⟨Dn, List.replicate vs.length true, rfl, SqL.of hD, ?_⟩
        rw [all_trues]
        exact q _ sm
theorem ok_same (T : Tops K mg) : ∀ n : Nat, FnOk P w K mg base CX0 (n + 1) T.fl_same T.dl_same ["_law_found", "_law_due"] (spSame n)
  | 0 => ok_same1 T 0 fn_none
  | n + 1 => ok_same1 T (n + 1) (ok_same T n)
end
end K15

set_option Elab.async false
set_option linter.all false
set_option maxRecDepth 100000
set_option maxHeartbeats 4000000
namespace K15
open PySem PySem.Spec PyProof.Rows L2 OG
open C8 (pss_cut pe_gc)
section
variable {P : Program} {w : World} {K : PySem.W.Frag} {mg : Str → Option Value} {base : Heap}
theorem ok_sign_of (T : Tops K mg) : FnOk P w K mg base CX0 1 T.fsign_of T.dsign_of ["number"] spSign := by
  refine T.Fsign_of.ok (k := 0) scsign_of (fun vs H Q E h => ?_) (fun cdv A outer s H vs Q E hr h => ?_)
  · obtain ⟨n, rfl, _⟩ := h
    rfl
  obtain ⟨n, rfl, q⟩ := h
  refine ⟨_, (pss_cons (ps_if (pt_cmpR op_eq (pv 0) pe_int (nomark _))
  (pss_one (ps_ret pe_int))
  pss_nil)
 (pss_one (ps_ret (pe_ifExp (pt_cmpR op_gt (pv 0) pe_int (nomark _)) pe_int (pe_un un_neg pe_int))))), ?_⟩
  refine ⟨_, rfl, rfl, _, rfl, ite2 (fun c => ?_) (fun c => ?_)⟩
  · have e : n = 0 := V.int.inj (of_decide_eq_true c)
    subst e
    exact q
  · have e : n ≠ 0 := fun z => c (by rw [z]; exact decide_eq_true rfl)
    refine ⟨_, rfl, _, 0, rfl, rfl, _, rfl, ite2 (fun c2 => ?_) (fun c2 => ?_)⟩
    · have e2 : 0 < n := of_decide_eq_true c2
      rw [sgn_pos e2] at q
      exact q
    · have e2 : ¬ 0 < n := fun z => c2 (decide_eq_true z)
      rw [sgn_neg (by omega)] at q
      exact ⟨1, rfl, q⟩
theorem ok_l_signum (T : Tops K mg) : FnOk P w K mg base CX0 1 T.fl_signum T.dl_signum ["_law_number"] spSign := by
  refine T.Fl_signum.ok (k := 0) scl_signum (fun vs H Q E h => ?_) (fun cdv A outer s H vs Q E hr h => ?_)
  · obtain ⟨n, rfl, _⟩ := h
    rfl
  obtain ⟨n, rfl, q⟩ := h
  refine ⟨_, (pss_one (ps_ret (pe_op op_sub (pe_callTy call_int1 (by rfl) T.mint (by decide +kernel) (pa_cons (pe_cmpR op_gt (pv 0) pe_int (nomark _)) pa_nil)) (pe_callTy call_int1 (by rfl) T.mint (by decide +kernel) (pa_cons (pe_cmpR op_lt (pv 0) pe_int (nomark _)) pa_nil))))), ?_⟩
  refine ⟨_, rfl, _, 0, rfl, rfl, .inr ⟨_, rfl, _, rfl, _, 0, rfl, rfl, .inr ⟨_, rfl, _, _, rfl, rfl, ?_⟩⟩⟩
  rcases sgn_cases n with ⟨h, k⟩ | ⟨h, k⟩ | ⟨h, k⟩
  · rw [decide_eq_false (by omega), decide_eq_true h]
    rw [k] at q
    exact q
  · rw [decide_eq_false (by omega), decide_eq_false (by omega)]
    rw [k] at q
    exact q
  · rw [decide_eq_true h, decide_eq_false (by omega)]
    rw [k] at q
    exact q
theorem ok_power (T : Tops K mg) : FnOk P w K mg base CX0 1 T.fpower T.dpower ["base", "exponent"] spPower := by
  refine T.Fpower.ok (k := 0) scpower (fun vs H Q E h => ?_) (fun cdv A outer s H vs Q E hr h => ?_)
  · obtain ⟨b, e, rfl, _⟩ := h
    rfl
  obtain ⟨b, e, rfl, b1, b2, he, q⟩ := h
  refine ⟨_, (pss_cons (ps_set (i := 2) scpower.nd rfl (Or.inl rfl) pe_int)
 (pss_cons (ps_for PassesOwn.never rfl (pi_range1 (by rfl) T.mrange (pa_cons (pv 1) pa_nil)) (pg_name (i := 3) scpower.nd rfl (Or.inl rfl))
  (pss_one (ps_aug (i := 2) scpower.nd rfl (Or.inl rfl) (pv 0) ip_mul)))
 (pss_one (ps_ret (pv 2))))), ?_⟩
  refine ⟨_, rfl, e, rfl, by omega, by omega, ?_⟩
  refine for_range (n := ((e : Nat) : Int).toNat) (fun i σ H' => H' = H ∧ ∃ x3, σ = [some (.int b), some (.int e), some (.int (b ^ i)), x3]) ⟨rfl, none, by rw [Int.pow_zero]; rfl⟩ (fun i σ H2 hi hP => ?_) (fun σ H2 hP => ?_)
  · obtain ⟨rfl, x3, rfl⟩ := hP
    refine ⟨_, rfl, _, rfl, _, _, rfl, rfl, .inr ⟨b1, b2⟩, rfl, some (.int (0 + (i : Int))), ?_⟩
    rw [Int.pow_succ]
    rfl
  · obtain ⟨rfl, x3, rfl⟩ := hP
    exact ⟨_, rfl, q⟩
theorem ok_l_raised (T : Tops K mg) : FnOk P w K mg base CX0 1 T.fl_raised T.dl_raised ["_law_part", "_law_upto"] spPower := by
  refine T.Fl_raised.ok (k := 0) scl_raised (fun vs H Q E h => ?_) (fun cdv A outer s H vs Q E hr h => ?_)
  · obtain ⟨b, e, rfl, _⟩ := h
    rfl
  obtain ⟨b, e, rfl, b1, b2, he, q⟩ := h
  refine ⟨_, (pss_cons (ps_set (i := 2) scl_raised.nd rfl (Or.inl rfl) pe_int)
 (pss_cons (ps_for PassesOwn.never rfl (pi_range1 (by rfl) T.mrange (pa_cons (pv 1) pa_nil)) (pg_name (i := 3) scl_raised.nd rfl (Or.inl rfl))
  (pss_one (ps_set (i := 2) scl_raised.nd rfl (Or.inl rfl) (pe_op op_mul (pv 2) (pv 0)))))
 (pss_one (ps_ret (pv 2))))), ?_⟩
  refine ⟨_, rfl, e, rfl, by omega, by omega, ?_⟩
  refine for_range (n := ((e : Nat) : Int).toNat) (fun i σ H' => H' = H ∧ ∃ x3, σ = [some (.int b), some (.int e), some (.int (b ^ i)), x3]) ⟨rfl, none, by rw [Int.pow_zero]; rfl⟩ (fun i σ H2 hi hP => ?_) (fun σ H2 hP => ?_)
  · obtain ⟨rfl, x3, rfl⟩ := hP
    refine ⟨_, rfl, _, rfl, _, _, rfl, rfl, .inr ⟨b1, b2⟩, rfl, some (.int (0 + (i : Int))), ?_⟩
    rw [Int.pow_succ]
    rfl
  · obtain ⟨rfl, x3, rfl⟩ := hP
    exact ⟨_, rfl, q⟩
end
end K15

set_option Elab.async false
set_option linter.all false
set_option maxRecDepth 100000
set_option maxHeartbeats 4000000
namespace K15
open PySem PySem.Spec PyProof.Rows L2 OG
open C8 (pss_cut pe_gc)
section
variable {P : Program} {w : World} {K : PySem.W.Frag} {mg : Str → Option Value} {base : Heap}
theorem ok_told_growth (T : Tops K mg) : FnOk P w K mg base CX0 1 T.ftold_growth T.dtold_growth ["times", "base", "figures"] spToldG := by
  refine T.Ftold_growth.ok (k := 0) sctold_growth (fun vs H Q E h => ?_) (fun cdv A outer s H vs Q E hr h => ?_)
  · obtain ⟨p, f, rfl, _⟩ := h
    rfl
  obtain ⟨p, f, rfl, hp, q⟩ := h
  refine ⟨_, (pss_cons (ps_set (i := 3) sctold_growth.nd rfl (Or.inl rfl) pe_int)
 (pss_cons (ps_set (i := 4) sctold_growth.nd rfl (Or.inl rfl) (pv 0))
 (pss_cons (ps_while PassesOwn.never (PW.pt (pw_and (pt_cmpR op_eq (pv 1) pe_int (nomark _)) (pw_and1 (pt_cmpR op_eq (pe_op op_mod (pv 4) pe_int) pe_int (nomark _)))))
  (pss_cons (ps_aug (i := 4) sctold_growth.nd rfl (Or.inl rfl) pe_int ip_fdiv)
 (pss_one (ps_aug (i := 3) sctold_growth.nd rfl (Or.inl rfl) pe_int ip_mul))))
 (pss_one (ps_ret (pe_ifExp (PW.pt (pw_and (pt_cmpR op_eq (pv 1) pe_int (nomark _)) (pw_and1 (pt_cmpR op_eq (pv 4) pe_int (nomark _))))) (pe_tup (pa_cons (pv 3) (pa_cons pe_int (pa_cons (pv 2) pa_nil)))) (pe_tup (pa_cons (pv 0) (pa_cons (pv 1) (pa_cons (pv 2) pa_nil)))))))))), ?_⟩
  obtain ⟨p1, p2, p3, p4, p5⟩ := gs_small p hp
  refine ⟨_, rfl, ?_⟩
  refine ⟨fun m σ H' => H' = H ∧ ∃ (hv r : Nat), σ = [some (.int p.1), some (.int p.2), some (.int f), some (.int hv), some (.int r)] ∧ 1 ≤ r ∧ r = m ∧ (r = p.1 ∨ (p.2 = 3 ∧ p.1 = 6 ∧ r = 2)), ⟨_, rfl, 1, p.1, rfl, p1, rfl, .inl rfl⟩, ?_⟩
  rintro m σ H' ⟨rfl, hv, r, rfl, r1, rfl, hr2⟩
  refine ⟨_, rfl, rfl, _, rfl, ite2 (fun c => ?_) (fun c => ?_)⟩
  · have e3 : p.2 = 3 := by
      have := V.int.inj (of_decide_eq_true c)
      omega
    refine ⟨_, rfl, _, 3, rfl, rfl, (show (0 : Int) < 3 by decide), rfl, _, rfl, ite2 (fun c2 => ?_) (fun c2 => ?_)⟩
    · have e4 : (r : Int) % 3 = 0 := V.int.inj (of_decide_eq_true c2)
      have e6 : r = p.1 ∧ p.1 = 6 := by
        rcases hr2 with h | ⟨_, h, h2⟩
        · rcases p4 e3 with h3 | h3
          · omega
          · exact ⟨h, h3⟩
        · subst h2
          omega
      refine ⟨fun σ' H2 => H2 = H' ∧ ∃ (hv r : Nat), σ' = [some (.int p.1), some (.int p.2), some (.int f), some (.int hv), some (.int r)] ∧ r = 2, ?_, ?_⟩
      · rintro σ2 H2 ⟨rfl, hv2, r2, rfl, rfl⟩
        exact ⟨2, by omega, rfl, hv2, 2, rfl, by decide, rfl, .inr ⟨e3, e6.2, rfl⟩⟩
      · refine ⟨_, rfl, _, _, rfl, rfl, ⟨by decide, by decide⟩, ?_⟩
        refine ⟨_, rfl, _, _, rfl, rfl, .inr ⟨by decide, by decide⟩, rfl, hv * 2, 2, ?_, rfl⟩
        have e7 : (r : Int) / 3 = ((2 : Nat) : Int) := by omega
        have e8 : ((hv : Nat) : Int) * 2 = ((hv * 2 : Nat) : Int) := by omega
        show [some (V.int p.1), some (V.int p.2), some (V.int f), some (V.int ((hv : Int) * 2)), some (V.int ((r : Int) / 3))] = _
        rw [e7, e8]
    · have ne1 : ¬ r = 1 := by
        rcases hr2 with h | ⟨_, _, h⟩
        · have := (p5 e3).1
          omega
        · omega
      refine ⟨_, rfl, rfl, _, rfl, ite2 (fun _ => ?_) (fun z => absurd c z)⟩
      refine ⟨_, rfl, rfl, _, rfl, ite2 (fun z => absurd (V.int.inj (of_decide_eq_true z)) (by omega)) (fun _ => ?_)⟩
      refine ⟨_, rfl, _, rfl, _, rfl, (by show 3 ≤ sizeLine; decide), fun t nt => ?_⟩
      exact q _ _ (same_new nt) (rp_tup upd_same (rpl_cons rfl (rpl_cons rfl (rpl_cons rfl rpl_nil))))
  · refine ⟨_, rfl, rfl, _, rfl, ite2 (fun z => absurd z c) (fun _ => ?_)⟩
    refine ⟨_, rfl, _, rfl, _, rfl, (by show 3 ≤ sizeLine; decide), fun t nt => ?_⟩
    exact q _ _ (same_new nt) (rp_tup upd_same (rpl_cons rfl (rpl_cons rfl (rpl_cons rfl rpl_nil))))
theorem ok_whole_power (T : Tops K mg) : FnOk P w K mg base CX0 2 T.fwhole_power T.dwhole_power ["told", "times"] spWhole := by
  have Gpower : FnOk P w K mg base CX0 1 T.fpower T.dpower ["base", "exponent"] spPower := ok_power T
  refine T.Fwhole_power.ok (k := 1) scwhole_power (fun vs H Q E h => ?_) (fun cdv A outer s H vs Q E hr h => ?_)
  · obtain ⟨v, p, f, u, rfl, _⟩ := h
    rfl
  obtain ⟨v, p, f, u, rfl, hR, hp, u1, u2, q⟩ := h
  refine ⟨_, (pss_cons (ps_set (i := 2) scwhole_power.nd rfl (Or.inl rfl) (pe_call Gpower (hr.mono (by omega)) (by rfl) T.gpower T.Fpower.kp T.bpower .nil pass0 (pa_cons (pe_ix ix_tup (pv 0) pe_int (fun _ _ => rfl)) (pa_cons (pv 1) pa_nil))))
 (pss_cons (ps_set (i := 3) scwhole_power.nd rfl (Or.inl rfl) pe_int)
 (pss_cons (ps_set (i := 4) scwhole_power.nd rfl (Or.inl rfl) (pe_ix ix_tup (pv 0) pe_int (fun _ _ => rfl)))
 (pss_cons (ps_while PassesOwn.never (pt_cmpR op_le (pv 4) (pv 2) (nomark _))
  (pss_cons (ps_aug (i := 4) scwhole_power.nd rfl (Or.inl rfl) (pe_ix ix_tup (pv 0) pe_int (fun _ _ => rfl)) ip_mul)
 (pss_one (ps_aug (i := 3) scwhole_power.nd rfl (Or.inl rfl) pe_int ip_add))))
 (pss_one (ps_ret (pv 3))))))), ?_⟩
  obtain ⟨p1, p2, p3, _⟩ := gs_small p hp
  obtain ⟨a, v1, v2, v3, rfl, ha, rfl, rfl, rfl⟩ := rp_t3 hR
  obtain ⟨f1, f2⟩ := flog_spec hp u2
  obtain ⟨g1, g2⟩ := pow_small hp u2
  refine ⟨_, rfl, a, _, 0, _, rfl, rfl, SqT.of ha, rfl, _, rfl, _, u, rfl, by omega, by omega, by omega, ?_⟩
  refine ⟨_, rfl, a, _, 1, _, rfl, rfl, SqT.of ha, rfl, ?_⟩
  have eN : ((p.1 : Nat) : Int) ^ u = ((p.1 ^ u : Nat) : Int) := by rw [Int.natCast_pow]
  rw [eN]
  refine ⟨fun m σ H' => H' = H ∧ ∃ k : Nat, σ = [some (.ref a), some (.int u), some (.int ((p.1 ^ u : Nat) : Int)), some (.int k), some (.int ((p.2 ^ (k + 1) : Nat) : Int))] ∧ p.2 ^ k ≤ p.1 ^ u ∧ m = p.1 ^ u + 1 - p.2 ^ k, ⟨_, rfl, 0, ?_, ?_, rfl⟩, ?_⟩
  · show [some (V.ref a), some (V.int u), some (V.int ((p.1 ^ u : Nat) : Int)), some (V.int 0), some (V.int p.2)] = _
    rw [Nat.zero_add, Nat.pow_one]
    rfl
  · rw [Nat.pow_zero]
    exact g1
  rintro m σ H' ⟨rfl, k, rfl, hk, rfl⟩
  refine ⟨_, rfl, _, rfl, _, _, rfl, rfl, _, rfl, ite2 (fun c => ?_) (fun c => ?_)⟩
  · have c1 : ((p.2 ^ (k + 1) : Nat) : Int) ≤ ((p.1 ^ u : Nat) : Int) := of_decide_eq_true c
    have c2 : p.2 ^ (k + 1) ≤ p.1 ^ u := Int.ofNat_le.mp c1
    refine ⟨fun σ' H2 => H2 = H' ∧ σ' = [some (.ref a), some (.int u), some (.int ((p.1 ^ u : Nat) : Int)), some (.int ((k + 1 : Nat) : Int)), some (.int ((p.2 ^ (k + 1 + 1) : Nat) : Int))], ?_, ?_⟩
    · rintro σ2 H2 ⟨rfl, rfl⟩
      refine ⟨_, ?_, rfl, k + 1, rfl, c2, rfl⟩
      have h0 : 0 < p.2 ^ k := Nat.pow_pos (by omega)
      have : p.2 ^ k < p.2 ^ (k + 1) := Nat.pow_lt_pow_right (by omega) (by omega)
      omega
    · refine ⟨_, rfl, _, rfl, a, _, 1, _, rfl, rfl, SqT.of ha, rfl, _, _, rfl, rfl, .inr ⟨by omega, by omega⟩, ?_⟩
      refine ⟨_, rfl, _, _, rfl, rfl, rfl, ?_⟩
      have e1 : ((p.2 ^ (k + 1) : Nat) : Int) * ((p.2 : Nat) : Int) = ((p.2 ^ (k + 1 + 1) : Nat) : Int) := by rw [← Int.natCast_mul, ← Nat.pow_succ]
      show [some (V.ref a), some (V.int u), some (V.int ((p.1 ^ u : Nat) : Int)), some (V.int ((k : Int) + 1)), some (V.int (((p.2 ^ (k + 1) : Nat) : Int) * ((p.2 : Nat) : Int)))] = _
      rw [e1]
      rfl
  · have c1 : ¬ ((p.2 ^ (k + 1) : Nat) : Int) ≤ ((p.1 ^ u : Nat) : Int) := fun z => c (decide_eq_true z)
    have c2 : p.1 ^ u < p.2 ^ (k + 1) := by omega
    have e := log_uniq (by omega) hk c2 f1 f2
    rw [← e] at q
    exact ⟨_, rfl, q⟩
theorem ok_l_whole_root (T : Tops K mg) : FnOk P w K mg base CX0 2 T.fl_whole_root T.dl_whole_root ["_law_times_of", "_law_by_it", "_law_upto"] spRoot := by
  have Gl_raised : FnOk P w K mg base CX0 1 T.fl_raised T.dl_raised ["_law_part", "_law_upto"] spPower := ok_l_raised T
  refine T.Fl_whole_root.ok (k := 1) scl_whole_root (fun vs H Q E h => ?_) (fun cdv A outer s H vs Q E hr h => ?_)
  · obtain ⟨p, u, rfl, _⟩ := h
    rfl
  obtain ⟨p, u, rfl, hp, u1, u2, q⟩ := h
  refine ⟨_, (pss_cons (ps_set (i := 3) scl_whole_root.nd rfl (Or.inl rfl) pe_int)
 (pss_cons (ps_set (i := 4) scl_whole_root.nd rfl (Or.inl rfl) (pe_call Gl_raised (hr.mono (by omega)) (by rfl) T.gl_raised T.Fl_raised.kp T.bl_raised .nil pass0 (pa_cons (pv 0) (pa_cons (pv 2) pa_nil))))
 (pss_cons (ps_while PassesOwn.never (pt_cmpR op_ge (pv 4) (pv 1) (nomark _))
  (pss_cons (ps_set (i := 4) scl_whole_root.nd rfl (Or.inl rfl) (pe_op op_fdiv (pv 4) (pv 1)))
 (pss_one (ps_set (i := 3) scl_whole_root.nd rfl (Or.inl rfl) (pe_op op_add (pv 3) pe_int)))))
 (pss_one (ps_ret (pv 3)))))), ?_⟩
  obtain ⟨p1, p2, p3, _⟩ := gs_small p hp
  obtain ⟨f1, f2⟩ := flog_spec hp u2
  obtain ⟨g1, g2⟩ := pow_small hp u2
  refine ⟨_, rfl, _, rfl, _, u, rfl, by omega, by omega, by omega, ?_⟩
  have eN : ((p.1 : Nat) : Int) ^ u = ((p.1 ^ u : Nat) : Int) := by rw [Int.natCast_pow]
  rw [eN]
  refine ⟨fun m σ H' => H' = H ∧ ∃ k N : Nat, σ = [some (.int p.1), some (.int p.2), some (.int u), some (.int k), some (.int N)] ∧ 1 ≤ N ∧ N = p.1 ^ u / p.2 ^ k ∧ N = m, ⟨_, rfl, 0, p.1 ^ u, rfl, g1, ?_, rfl⟩, ?_⟩
  · rw [Nat.pow_zero, Nat.div_one]
  rintro m σ H' ⟨rfl, k, N, rfl, hN, eN2, rfl⟩
  refine ⟨_, rfl, _, rfl, _, _, rfl, rfl, _, rfl, ite2 (fun c => ?_) (fun c => ?_)⟩
  · have c1 : ((p.2 : Nat) : Int) ≤ ((N : Nat) : Int) := of_decide_eq_true c
    refine ⟨fun σ' H2 => H2 = H' ∧ σ' = [some (.int p.1), some (.int p.2), some (.int u), some (.int ((k + 1 : Nat) : Int)), some (.int ((N / p.2 : Nat) : Int))], ?_, ?_⟩
    · rintro σ2 H2 ⟨rfl, rfl⟩
      refine ⟨_, Nat.div_lt_self (n := N) (k := p.2) (by omega) (by omega), rfl, k + 1, N / p.2, rfl, Nat.div_pos (by omega) (by omega), ?_, rfl⟩
      rw [eN2, Nat.div_div_eq_div_mul, Nat.pow_succ]
    · refine ⟨_, rfl, _, rfl, _, _, rfl, rfl, ⟨by omega, by omega⟩, ?_⟩
      refine ⟨_, rfl, _, _, rfl, rfl, rfl, ?_⟩
      rfl
  · have c1 : ¬ ((p.2 : Nat) : Int) ≤ ((N : Nat) : Int) := fun z => c (decide_eq_true z)
    have c2 : N < p.2 := by omega
    have hpk : 0 < p.2 ^ k := Nat.pow_pos (by omega)
    have h1 : p.2 ^ k ≤ p.1 ^ u := by
      have : 1 ≤ p.1 ^ u / p.2 ^ k := by omega
      have := (Nat.le_div_iff_mul_le hpk).mp this
      omega
    have h2 : p.1 ^ u < p.2 ^ (k + 1) := by
      have : p.1 ^ u / p.2 ^ k < p.2 := by omega
      have := (Nat.div_lt_iff_lt_mul hpk).mp this
      rw [Nat.pow_succ, Nat.mul_comm]
      exact this
    have e := log_uniq (by omega) h1 h2 f1 f2
    rw [← e] at q
    exact ⟨_, rfl, q⟩
end
end K15

set_option Elab.async false
set_option linter.all false
set_option maxRecDepth 100000
set_option maxHeartbeats 4000000
namespace K15
open PySem PySem.Spec PyProof.Rows L2 OG
open C8 (pss_cut pe_gc)
open StX (pe_callS1)
section
variable {P : Program} {w : World} {K : PySem.W.Frag} {mg : Str → Option Value} {base : Heap}
theorem ok_power_order (T : Tops K mg) : FnOk P w K mg base CX0 3 T.fpower_order T.dpower_order ["one", "other"] spOrder := by
  have Gsign_of : FnOk P w K mg base CX0 1 T.fsign_of T.dsign_of ["number"] spSign := ok_sign_of T
  have Gwhole_power : FnOk P w K mg base CX0 2 T.fwhole_power T.dwhole_power ["told", "times"] spWhole := ok_whole_power T
  refine T.Fpower_order.ok (k := 2) scpower_order (fun vs H Q E h => ?_) (fun cdv A outer s H vs Q E hr h => ?_)
  · obtain ⟨v, z, p, r, f, g, rfl, _⟩ := h
    rfl
  obtain ⟨v, z, p, r, f, g, rfl, hR, hS, hp, hq, q⟩ := h
  refine ⟨_, (pss_cons (ps_if (pt_cmpR op_eq (pe_ix ix_tup (pv 0) pe_int (fun _ _ => rfl)) (pe_ix ix_tup (pv 1) pe_int (fun _ _ => rfl)) (nomark _))
  (pss_one (ps_ret (pe_call Gsign_of (hr.mono (by omega)) (by rfl) T.gsign_of T.Fsign_of.kp T.bsign_of .nil pass0 (pa_cons (pe_op op_sub (pe_ix ix_tup (pv 0) pe_int (fun _ _ => rfl)) (pe_ix ix_tup (pv 1) pe_int (fun _ _ => rfl))) pa_nil))))
  pss_nil)
 (pss_cons (ps_set (i := 2) scpower_order.nd rfl (Or.inl rfl) pe_int)
 (pss_one (ps_while PassesOwn.never (pt_val pe_bl)
  (pss_cons (ps_set (i := 3) scpower_order.nd rfl (Or.inl rfl) (pe_call Gsign_of (hr.mono (by omega)) (by rfl) T.gsign_of T.Fsign_of.kp T.bsign_of .nil pass0 (pa_cons (pe_op op_sub (pe_call Gwhole_power (hr.mono (by omega)) (by rfl) T.gwhole_power T.Fwhole_power.kp T.bwhole_power .nil pass0 (pa_cons (pv 0) (pa_cons (pv 2) pa_nil))) (pe_call Gwhole_power (hr.mono (by omega)) (by rfl) T.gwhole_power T.Fwhole_power.kp T.bwhole_power .nil pass0 (pa_cons (pv 1) (pa_cons (pv 2) pa_nil)))) pa_nil)))
 (pss_cons (ps_if (pt_cmpR op_ne (pv 3) pe_int (nomark _))
  (pss_one (ps_ret (pv 3)))
  pss_nil)
 (pss_one (ps_aug (i := 2) scpower_order.nd rfl (Or.inl rfl) pe_int ip_add)))))))), ?_⟩
  obtain ⟨a, v1, v2, v3, rfl, ha, rfl, rfl, rfl⟩ := rp_t3 hR
  obtain ⟨b, w1, w2, w3, rfl, hb, rfl, rfl, rfl⟩ := rp_t3 hS
  refine ⟨_, rfl, a, _, 1, _, rfl, rfl, SqT.of ha, rfl, _, rfl, b, _, 1, _, rfl, rfl, SqT.of hb, rfl, rfl, _, rfl, ite2 (fun c => ?_) (fun c => ?_)⟩
  · have e2 : p.2 = r.2 := by
      have := V.int.inj (of_decide_eq_true c)
      omega
    refine ⟨_, rfl, a, _, 0, _, rfl, rfl, SqT.of ha, rfl, _, rfl, b, _, 0, _, rfl, rfl, SqT.of hb, rfl, _, _, rfl, rfl, _, rfl, ?_⟩
    by_cases hpr : p = r
    · subst hpr
      rw [show rank p - rank p = 0 by omega] at q
      rw [show ((p.1 : Nat) : Int) - ((p.1 : Nat) : Int) = 0 by omega]
      exact q
    · rw [(tell hp hq hpr).2.2 e2]
      exact q
  · have hpr : p ≠ r := fun e => c (by rw [e]; exact decide_eq_true rfl)
    obtain ⟨⟨U, U1, U2, hU⟩, tl2, _⟩ := tell hp hq hpr
    refine ⟨fun m σ H' => H' = H ∧ ∃ (u : Nat) (x3 : Option V), σ = [some (.ref a), some (.ref b), some (.int u), x3] ∧ 1 ≤ u ∧ u ≤ U ∧ 7 - u = m, ⟨_, rfl, 1, none, rfl, by decide, U1, rfl⟩, ?_⟩
    rintro m σ H' ⟨rfl, u, x3, rfl, u1, u2, rfl⟩
    refine ⟨true, rfl, iteT ?_⟩
    refine ⟨fun σ' H2 => H2 = H' ∧ ∃ x3, σ' = [some (.ref a), some (.ref b), some (.int ((u + 1 : Nat) : Int)), x3] ∧ u ≠ U, ?_, ?_⟩
    · rintro σ2 H2 ⟨rfl, y3, rfl, hne⟩
      exact ⟨7 - (u + 1), by omega, rfl, u + 1, y3, rfl, by omega, by omega, rfl⟩
    · refine ⟨_, rfl, _, rfl, _, p, f, u, rfl, hR, hp, u1, by omega, ?_⟩
      refine ⟨_, rfl, _, rfl, _, r, g, u, rfl, hS, hq, u1, by omega, ?_⟩
      refine ⟨_, _, rfl, rfl, _, rfl, ?_⟩
      refine ⟨_, rfl, rfl, _, rfl, ite2 (fun c2 => ?_) (fun c2 => ?_)⟩
      · have hf : fdiff p r u ≠ 0 := fun e => by
          have c3 : (!decide (V.int (sgn (fdiff p r u)) = V.int 0)) = true := c2
          rw [e] at c3
          exact absurd c3 (by decide)
        have e := tl2 u u1 (by omega) hf
        refine ⟨_, rfl, ?_⟩
        show Q (.int (sgn (fdiff p r u))) H'
        rw [e]
        exact q
      · refine ⟨_, rfl, _, _, rfl, rfl, rfl, _, rfl, fun eU => ?_⟩
        subst eU
        refine c2 ?_
        show (!decide (V.int (sgn (fdiff p r u)) = V.int 0)) = true
        rw [decide_eq_false fun z => ?_]
        · rfl
        · rcases sgn_cases (fdiff p r u) with ⟨_, k⟩ | ⟨k, _⟩ | ⟨_, k⟩
          · rw [k] at z; cases z
          · exact hU k
          · rw [k] at z; cases z
theorem ok_greater_growth (T : Tops K mg) : FnOk P w K mg base CX0 4 T.fgreater_growth T.dgreater_growth ["one", "other"] spGreater := by
  have Gsign_of : FnOk P w K mg base CX0 1 T.fsign_of T.dsign_of ["number"] spSign := ok_sign_of T
  have Gtold_growth : FnOk P w K mg base CX0 1 T.ftold_growth T.dtold_growth ["times", "base", "figures"] spToldG := ok_told_growth T
  have Gpower_order : FnOk P w K mg base CX0 3 T.fpower_order T.dpower_order ["one", "other"] spOrder := ok_power_order T
  refine T.Fgreater_growth.ok (k := 3) scgreater_growth (fun vs H Q E h => ?_) (fun cdv A outer s H vs Q E hr h => ?_)
  · obtain ⟨v, z, g, h, rfl, _⟩ := h
    rfl
  obtain ⟨v, z, g, h, rfl, hR, hS, hg, hh, q⟩ := h
  refine ⟨_, (pss_cons (ps_if (PW.pt (pw_or (pt_cmpR op_isN (pv 0) pe_non (nomark _)) (pw_or1 (pt_cmpR op_isN (pv 1) pe_non (nomark _)))))
  (pss_one (ps_ret (pe_op op_sub (pe_ifExp (pt_cmpR op_isN (pv 0) pe_non (nomark _)) pe_int pe_int) (pe_ifExp (pt_cmpR op_isN (pv 1) pe_non (nomark _)) pe_int pe_int))))
  pss_nil)
 (pss_cons (ps_set (i := 2) scgreater_growth.nd rfl (Or.inl rfl) (pe_call Gpower_order (hr.mono (by omega)) (by rfl) T.gpower_order T.Fpower_order.kp T.bpower_order .nil pass0 (pa_cons (pe_callS1 (Gtold_growth.raw T.btold_growth .nil) (hr.mono (by omega)) T.Ftold_growth.kp (by rfl) T.gtold_growth pass0 (pv 0)) (pa_cons (pe_callS1 (Gtold_growth.raw T.btold_growth .nil) (hr.mono (by omega)) T.Ftold_growth.kp (by rfl) T.gtold_growth pass0 (pv 1)) pa_nil))))
 (pss_one (ps_ret (pe_ifExp (pt_cmpR op_eq (pv 2) pe_int (nomark _)) (pe_call Gsign_of (hr.mono (by omega)) (by rfl) T.gsign_of T.Fsign_of.kp T.bsign_of .nil pass0 (pa_cons (pe_op op_sub (pe_ix ix_tup (pv 0) pe_int (fun _ _ => rfl)) (pe_ix ix_tup (pv 1) pe_int (fun _ _ => rfl))) pa_nil)) (pv 2)))))), ?_⟩
  have q0 := q H (Same.refl H)
  cases g with
  | none =>
    have ev : v = .non := hR
    subst ev
    cases h with
    | none =>
      have ez : z = .non := hS
      subst ez
      refine ⟨_, rfl, rfl, _, rfl, ite2 (fun _ => ?_) (fun z => absurd (decide_eq_true rfl) z)⟩
      refine ⟨_, rfl, rfl, _, rfl, ite2 (fun _ => ?_) (fun z => absurd (decide_eq_true rfl) z)⟩
      refine ⟨_, rfl, rfl, _, rfl, ite2 (fun _ => ?_) (fun z => absurd (decide_eq_true rfl) z)⟩
      exact ⟨_, _, rfl, rfl, q0⟩
    | some pf =>
      obtain ⟨p, f⟩ := pf
      obtain ⟨b, w1, w2, w3, rfl, hb, _⟩ := rp_t3 hS
      refine ⟨_, rfl, rfl, _, rfl, ite2 (fun _ => ?_) (fun z => absurd (decide_eq_true rfl) z)⟩
      refine ⟨_, rfl, rfl, _, rfl, ite2 (fun _ => ?_) (fun z => absurd (decide_eq_true rfl) z)⟩
      refine ⟨_, rfl, rfl, _, rfl, ite2 (fun z => absurd (of_decide_eq_true z) (fun e => by cases e)) (fun _ => ?_)⟩
      refine ⟨_, _, rfl, rfl, ?_⟩
      rw [sgn_neg (by show (0 : Int) - gval (some (p, f)) < 0; have := gval_some (p := p) (f := f); omega)] at q0
      exact q0
  | some pf =>
    obtain ⟨p, f⟩ := pf
    obtain ⟨a, v1, v2, v3, rfl, ha, rfl, rfl, rfl⟩ := rp_t3 hR
    cases h with
    | none =>
      have ez : z = .non := hS
      subst ez
      refine ⟨_, rfl, rfl, _, rfl, ite2 (fun z => absurd (of_decide_eq_true z) (fun e => by cases e)) (fun _ => ?_)⟩
      refine ⟨_, rfl, rfl, _, rfl, ite2 (fun _ => ?_) (fun z => absurd (decide_eq_true rfl) z)⟩
      refine ⟨_, rfl, rfl, _, rfl, ite2 (fun z => absurd (of_decide_eq_true z) (fun e => by cases e)) (fun _ => ?_)⟩
      refine ⟨_, rfl, rfl, _, rfl, ite2 (fun _ => ?_) (fun z => absurd (decide_eq_true rfl) z)⟩
      refine ⟨_, _, rfl, rfl, ?_⟩
      rw [sgn_pos (by show 0 < gval (some (p, f)) - 0; have := gval_some (p := p) (f := f); omega)] at q0
      exact q0
    | some qg =>
      obtain ⟨r, g⟩ := qg
      obtain ⟨b, w1, w2, w3, rfl, hb, rfl, rfl, rfl⟩ := rp_t3 hS
      refine ⟨_, rfl, rfl, _, rfl, ite2 (fun z => absurd (of_decide_eq_true z) (fun e => by cases e)) (fun _ => ?_)⟩
      refine ⟨_, rfl, rfl, _, rfl, ite2 (fun z => absurd (of_decide_eq_true z) (fun e => by cases e)) (fun _ => ?_)⟩
      refine ⟨_, rfl, a, _, rfl, .inl (SqT.of ha), p, f, rfl, hg.1, fun v' H1 s1 hR1 => ?_⟩
      refine ⟨_, rfl, b, _, rfl, .inl (SqT.of (s1 _ _ hb)), r, g, rfl, hh.1, fun z' H2 s2 hS2 => ?_⟩
      refine ⟨v', z', p, r, f, g, rfl, hR1.to (Imm.same s2), hS2, hg.1, hh.1, ?_⟩
      have s12 := s1.trans s2
      have q2 := q H2 s12
      refine ⟨_, rfl, rfl, _, rfl, ite2 (fun c => ?_) (fun c => ?_)⟩
      · have hz : sgn (rank p - rank r) = 0 := V.int.inj (of_decide_eq_true c)
        have hpr : p = r := by
          by_cases hpr : p = r
          · exact hpr
          · exact absurd hz (gval_ne hg.1 hh.1 hg.2 hh.2 hpr).2
        subst hpr
        rw [gval_eq] at q2
        exact ⟨_, rfl, a, _, 2, _, rfl, rfl, SqT.of (s12 _ _ ha), rfl, _, rfl, b, _, 2, _, rfl, rfl, SqT.of (s12 _ _ hb), rfl, _, _, rfl, rfl, _, rfl, q2⟩
      · have hpr : p ≠ r := fun e => c (by rw [e, show rank r - rank r = 0 by omega]; exact decide_eq_true rfl)
        rw [(gval_ne hg.1 hh.1 hg.2 hh.2 hpr).1] at q2
        exact ⟨_, rfl, q2⟩
theorem ok_l_greater (T : Tops K mg) : FnOk P w K mg base CX0 4 T.fl_greater T.dl_greater ["_law_one", "_law_other"] spGreater := by
  have Gl_signum : FnOk P w K mg base CX0 1 T.fl_signum T.dl_signum ["_law_number"] spSign := ok_l_signum T
  have Gl_whole_root : FnOk P w K mg base CX0 2 T.fl_whole_root T.dl_whole_root ["_law_times_of", "_law_by_it", "_law_upto"] spRoot := ok_l_whole_root T
  refine T.Fl_greater.ok (k := 3) scl_greater (fun vs H Q E h => ?_) (fun cdv A outer s H vs Q E hr h => ?_)
  · obtain ⟨v, z, g, h, rfl, _⟩ := h
    rfl
  obtain ⟨v, z, g, h, rfl, hR, hS, hg, hh, q⟩ := h
  refine ⟨_, (pss_cons (ps_if (PW.pt (pw_or (pt_cmpR op_isN (pv 0) pe_non (nomark _)) (pw_or1 (pt_cmpR op_isN (pv 1) pe_non (nomark _)))))
  (pss_one (ps_ret (pe_op op_sub (pe_callTy call_int1 (by rfl) T.mint (by decide +kernel) (pa_cons (pe_cmpR op_isN (pv 1) pe_non (nomark _)) pa_nil)) (pe_callTy call_int1 (by rfl) T.mint (by decide +kernel) (pa_cons (pe_cmpR op_isN (pv 0) pe_non (nomark _)) pa_nil)))))
  pss_nil)
 (pss_cons (ps_if (pt_cmpR (op_eqD hr.units) (pe_slice sl_tupA (pv 0) po_none (po_some pe_int)) (pe_slice sl_tupA (pv 1) po_none (po_some pe_int)) (nomark _))
  (pss_one (ps_ret (pe_call Gl_signum (hr.mono (by omega)) (by rfl) T.gl_signum T.Fl_signum.kp T.bl_signum .nil pass0 (pa_cons (pe_op op_sub (pe_ix ix_tup (pv 0) pe_int (fun _ _ => rfl)) (pe_ix ix_tup (pv 1) pe_int (fun _ _ => rfl))) pa_nil))))
  pss_nil)
 (pss_cons (ps_for PassesOwn.never rfl (pi_range2 (by rfl) T.mrange (pa_cons pe_int (pa_cons pe_int pa_nil))) (pg_name (i := 2) scl_greater.nd rfl (Or.inl rfl))
  (pss_cons (ps_set (i := 3) scl_greater.nd rfl (Or.inl rfl) (pe_op op_sub (pe_call Gl_whole_root (hr.mono (by omega)) (by rfl) T.gl_whole_root T.Fl_whole_root.kp T.bl_whole_root .nil pass0 (pa_cons (pe_ix ix_tup (pv 0) pe_int (fun _ _ => rfl)) (pa_cons (pe_ix ix_tup (pv 0) pe_int (fun _ _ => rfl)) (pa_cons (pv 2) pa_nil)))) (pe_call Gl_whole_root (hr.mono (by omega)) (by rfl) T.gl_whole_root T.Fl_whole_root.kp T.bl_whole_root .nil pass0 (pa_cons (pe_ix ix_tup (pv 1) pe_int (fun _ _ => rfl)) (pa_cons (pe_ix ix_tup (pv 1) pe_int (fun _ _ => rfl)) (pa_cons (pv 2) pa_nil))))))
 (pss_one (ps_if (pt_cmpR op_ne (pv 3) pe_int (nomark _))
  (pss_one (ps_ret (pe_call Gl_signum (hr.mono (by omega)) (by rfl) T.gl_signum T.Fl_signum.kp T.bl_signum .nil pass0 (pa_cons (pv 3) pa_nil))))
  pss_nil))))
 (pss_one (ps_ret (pe_call Gl_signum (hr.mono (by omega)) (by rfl) T.gl_signum T.Fl_signum.kp T.bl_signum .nil pass0 (pa_cons (pe_op op_sub (pe_ix ix_tup (pv 0) pe_int (fun _ _ => rfl)) (pe_ix ix_tup (pv 1) pe_int (fun _ _ => rfl))) pa_nil))))))), ?_⟩
  have q0 := q H (Same.refl H)
  cases g with
  | none =>
    have ev : v = .non := hR
    subst ev
    cases h with
    | none =>
      have ez : z = .non := hS
      subst ez
      refine ⟨_, rfl, rfl, _, rfl, ite2 (fun _ => ?_) (fun z => absurd (decide_eq_true rfl) z)⟩
      refine ⟨_, rfl, rfl, .inr ⟨_, rfl, _, rfl, rfl, .inr ⟨_, rfl, _, _, rfl, rfl, ?_⟩⟩⟩
      exact q0
    | some pf =>
      obtain ⟨p, f⟩ := pf
      obtain ⟨b, w1, w2, w3, rfl, hb, _⟩ := rp_t3 hS
      refine ⟨_, rfl, rfl, _, rfl, ite2 (fun _ => ?_) (fun z => absurd (decide_eq_true rfl) z)⟩
      refine ⟨_, rfl, rfl, .inr ⟨_, rfl, _, rfl, rfl, .inr ⟨_, rfl, _, _, rfl, rfl, ?_⟩⟩⟩
      rw [sgn_neg (by show (0 : Int) - gval (some (p, f)) < 0; have := gval_some (p := p) (f := f); omega)] at q0
      exact q0
  | some pf =>
    obtain ⟨p, f⟩ := pf
    obtain ⟨a, v1, v2, v3, rfl, ha, rfl, rfl, rfl⟩ := rp_t3 hR
    cases h with
    | none =>
      have ez : z = .non := hS
      subst ez
      refine ⟨_, rfl, rfl, _, rfl, ite2 (fun z => absurd (of_decide_eq_true z) (fun e => by cases e)) (fun _ => ?_)⟩
      refine ⟨_, rfl, rfl, _, rfl, ite2 (fun _ => ?_) (fun z => absurd (decide_eq_true rfl) z)⟩
      refine ⟨_, rfl, rfl, .inr ⟨_, rfl, _, rfl, rfl, .inr ⟨_, rfl, _, _, rfl, rfl, ?_⟩⟩⟩
      rw [sgn_pos (by show 0 < gval (some (p, f)) - 0; have := gval_some (p := p) (f := f); omega)] at q0
      exact q0
    | some qg =>
      obtain ⟨r, g⟩ := qg
      obtain ⟨b, w1, w2, w3, rfl, hb, rfl, rfl, rfl⟩ := rp_t3 hS
      refine ⟨_, rfl, rfl, _, rfl, ite2 (fun z => absurd (of_decide_eq_true z) (fun e => by cases e)) (fun _ => ?_)⟩
      refine ⟨_, rfl, rfl, _, rfl, ite2 (fun z => absurd (of_decide_eq_true z) (fun e => by cases e)) (fun _ => ?_)⟩
      refine ⟨_, rfl, 2, rfl, ?_⟩
      refine sl_rp (K := K) (lo := none) (hi := some 2) hR fun v' H1 s1 hR1 => ?_
      refine ⟨_, rfl, 2, rfl, ?_⟩
      refine sl_rp (K := K) (lo := none) (hi := some 2) (hS.to (Imm.same s1)) fun z' H2 s2 hS2 => ?_
      have hR2 : Rp H2 v' (.tup [.int p.1, .int p.2]) := hR1.to (Imm.same s2)
      have hS2' : Rp H2 z' (.tup [.int r.1, .int r.2]) := hS2
      have s12 := s1.trans s2
      refine ⟨_, _, rp_dp _ _ hR2, rp_dp _ _ hS2', rfl, rfl, _, rfl, ite2 (fun c => ?_) (fun c => ?_)⟩
      · have c2 : (((p.1 : Int) == (r.1 : Int)) && (((p.2 : Int) == (r.2 : Int)) && true)) = true := c
        have hpr : p = r := by
          simp only [Bool.and_eq_true, beq_iff_eq, and_true] at c2
          obtain ⟨x1, x2⟩ := p
          obtain ⟨y1, y2⟩ := r
          have h1 : x1 = y1 := by have := c2.1; omega
          have h2 : x2 = y2 := by have := c2.2; omega
          rw [h1, h2]
        subst hpr
        have q2 := q H2 s12
        rw [gval_eq] at q2
        exact ⟨_, rfl, a, _, 2, _, rfl, rfl, SqT.of (s12 _ _ ha), rfl, _, rfl, b, _, 2, _, rfl, rfl, SqT.of (s12 _ _ hb), rfl, _, _, rfl, rfl, _, rfl, q2⟩
      · have hpr : p ≠ r := fun e => c (by
          subst e
          show (((p.1 : Int) == (p.1 : Int)) && (((p.2 : Int) == (p.2 : Int)) && true)) = true
          simp)
        obtain ⟨⟨U, U1, U2, hU⟩, tl2, _⟩ := tell hg.1 hh.1 hpr
        have q2 := q H2 s12
        rw [(gval_ne hg.1 hh.1 hg.2 hh.2 hpr).1] at q2
        refine ⟨1, 61, rfl, by decide, ?_⟩
        refine for_range (lo := 1) (n := 60) (fun i σ H' => H' = H2 ∧ (∃ x2 x3, σ = [some (.ref a), some (.ref b), x2, x3]) ∧ i < U) ⟨rfl, ⟨_, _, rfl⟩, U1⟩ (fun i σ H3 hi hP => ?_) (fun σ H3 hP => by obtain ⟨_, _, hlt⟩ := hP; omega)
        obtain ⟨rfl, ⟨x2, x3, rfl⟩, hlt⟩ := hP
        have eu : (1 : Int) + ((i : Nat) : Int) = ((i + 1 : Nat) : Int) := by omega
        rw [eu]
        refine ⟨_, rfl, a, _, 0, _, rfl, rfl, SqT.of (s12 _ _ ha), rfl, _, rfl, a, _, 1, _, rfl, rfl, SqT.of (s12 _ _ ha), rfl, _, rfl, p, i + 1, rfl, hg.1, by omega, by omega, ?_⟩
        refine ⟨_, rfl, b, _, 0, _, rfl, rfl, SqT.of (s12 _ _ hb), rfl, _, rfl, b, _, 1, _, rfl, rfl, SqT.of (s12 _ _ hb), rfl, _, rfl, r, i + 1, rfl, hh.1, by omega, by omega, ?_⟩
        refine ⟨_, _, rfl, rfl, ?_⟩
        refine ⟨_, rfl, rfl, _, rfl, ite2 (fun c2 => ?_) (fun c2 => ?_)⟩
        · have hf : fdiff p r (i + 1) ≠ 0 := fun e => by
            have c3 : (!decide (V.int (fdiff p r (i + 1)) = V.int 0)) = true := c2
            rw [e] at c3
            exact absurd c3 (by decide)
          refine ⟨_, rfl, _, rfl, ?_⟩
          show Q (.int (sgn (fdiff p r (i + 1)))) H3
          rw [tl2 (i + 1) (by omega) (by omega) hf]
          exact q2
        · refine ⟨rfl, ⟨_, _, rfl⟩, ?_⟩
          have hz : fdiff p r (i + 1) = 0 := by
            by_cases hz : fdiff p r (i + 1) = 0
            · exact hz
            · refine absurd ?_ c2
              show (!decide (V.int (fdiff p r (i + 1)) = V.int 0)) = true
              rw [decide_eq_false fun z => hz (V.int.inj z)]
              rfl
          have : i + 1 ≠ U := fun e => hU (e ▸ hz)
          omega
theorem ok_drawn_growth (T : Tops K mg) : FnOk P w K mg base CX0 3 T.fl_drawn_growth T.dl_drawn_growth ["_law_draw"] spDrawnG := by
  have Gl_take : FnOk P w K mg base CX0 1 T.fl_take T.dl_take ["_law_draw", "_law_sides"] spTake := ok_take T
  have Gl_pick : FnOk P w K mg base CX0 2 T.fl_pick T.dl_pick ["_law_draw", "_law_row"] (spPick K) := ok_pick T
  have Gl_raised : FnOk P w K mg base CX0 1 T.fl_raised T.dl_raised ["_law_part", "_law_upto"] spPower := ok_l_raised T
  refine T.Fl_drawn_growth.ok (k := 2) scl_drawn_growth (fun vs H Q E h => ?_) (fun cdv A outer s H vs Q E hr h => ?_)
  · obtain ⟨d, L, rfl, _⟩ := h
    rfl
  obtain ⟨d, L, rfl, hD, q⟩ := h
  refine ⟨_, (pss_cons (ps_set (i := 1) scl_drawn_growth.nd rfl (Or.inl rfl) (pe_call Gl_take (hr.mono (by omega)) (by rfl) T.gl_take T.Fl_take.kp T.bl_take .nil pass0 (pa_cons (pv 0) (pa_cons pe_int pa_nil))))
 (pss_cons (ps_set (i := 2) scl_drawn_growth.nd rfl (Or.inl rfl) (pe_call Gl_take (hr.mono (by omega)) (by rfl) T.gl_take T.Fl_take.kp T.bl_take .nil pass0 (pa_cons (pv 0) (pa_cons (pe_ix ix_list (pe_lst (pa_cons pe_int (pa_cons pe_int (pa_cons pe_int pa_nil)))) (pe_call Gl_take (hr.mono (by omega)) (by rfl) T.gl_take T.Fl_take.kp T.bl_take .nil pass0 (pa_cons (pv 0) (pa_cons pe_int pa_nil))) (fun _ _ => rfl)) pa_nil))))
 (pss_cons (ps_if (pt_cmpR op_eq (pv 1) pe_int (nomark _))
  (pss_one (ps_ret pe_non))
  pss_nil)
 (pss_cons (ps_if (pt_cmpR op_lt (pv 1) pe_int (nomark _))
  (pss_one (ps_ret (pe_tup (pa_cons (pe_call Gl_raised (hr.mono (by omega)) (by rfl) T.gl_raised T.Fl_raised.kp T.bl_raised .nil pass0 (pa_cons pe_int (pa_cons (pe_call Gl_take (hr.mono (by omega)) (by rfl) T.gl_take T.Fl_take.kp T.bl_take .nil pass0 (pa_cons (pv 0) (pa_cons pe_int pa_nil))) pa_nil))) (pa_cons pe_int (pa_cons (pv 2) pa_nil))))))
  pss_nil)
 (pss_cons (ps_if (pt_cmpR op_lt (pv 1) pe_int (nomark _))
  (pss_one (ps_ret (pe_tup (pa_cons (pe_op op_add pe_int (pe_call Gl_take (hr.mono (by omega)) (by rfl) T.gl_take T.Fl_take.kp T.bl_take .nil pass0 (pa_cons (pv 0) (pa_cons pe_int pa_nil)))) (pa_cons pe_int (pa_cons pe_int pa_nil))))))
  pss_nil)
 (pss_one (ps_ret (pe_tup (pa_cons (pe_call Gl_pick (hr.mono (by omega)) (by rfl) T.gl_pick T.Fl_pick.kp T.bl_pick .nil pass0 (pa_cons (pv 0) (pa_cons (pe_lst (pa_cons pe_int (pa_cons pe_int (pa_cons pe_int (pa_cons pe_int (pa_cons pe_int (pa_cons pe_int pa_nil))))))) pa_nil))) (pa_cons pe_int (pa_cons pe_int pa_nil))))))))))), ?_⟩
  refine ⟨_, rfl, d, L, 7, rfl, hD, by decide, by decide, fun fk H1 fk0 fk1 hD1 hB1 => ?_⟩
  have G1 : Go (· = d) H H1 := Go.but hD hB1 rfl
  refine ⟨_, rfl, (by show 3 ≤ sizeLine; decide), fun l nl => ?_⟩
  refine ⟨_, rfl, d, L, 3, rfl, hD1.new nl, by decide, by decide, fun g2 H2 a2 b2 hD2 hB2 => ?_⟩
  have G2 : Go (· = d) H H2 := (G1.new nl).trans (Go.but (hD1.new nl) hB2 rfl)
  have hl : H2 l = some (.lst [.int 1, .int 3, .int 11]) := by
    rw [hB2 l (hD1.neNew nl).1]
    exact upd_same
  obtain ⟨v, hv, hm⟩ := atI_lt (xs := [V.int 1, .int 3, .int 11]) a2 b2
  obtain ⟨m, rfl, hm2⟩ := mem_ints3 hm
  refine ⟨l, _, g2, _, rfl, rfl, SqL.of hl, hv, ?_⟩
  refine ⟨d, L, m, rfl, hD2, by omega, by omega, fun fg H3 a3 b3 hD3 hB3 => ?_⟩
  have G3 := G2.trans (Go.but hD2 hB3 (M := (· = d)) rfl)
  refine ⟨_, rfl, rfl, _, rfl, ite2 (fun _ => ?_) (fun _ => ?_)⟩
  · exact q _ none H3 rfl trivial hD3 G3
  refine ⟨_, rfl, _, 3, rfl, rfl, _, rfl, ite2 (fun _ => ?_) (fun _ => ?_)⟩
  · refine ⟨_, rfl, d, L, 10, rfl, hD3, by decide, by decide, fun e H4 a4 b4 hD4 hB4 => ?_⟩
    have G4 := G3.trans (Go.but hD3 hB4 (M := (· = d)) rfl)
    have ee : e = ((e.toNat : Nat) : Int) := by omega
    rw [ee]
    refine ⟨2, e.toNat, rfl, by decide, by decide, by omega, ?_⟩
    refine ⟨_, rfl, (by show 3 ≤ sizeLine; decide), fun t nt => ?_⟩
    have hin : ((2 ^ e.toNat : Nat), 2) ∈ Gs := by
      have : ∀ k, k < 10 → ((2 ^ k : Nat), 2) ∈ Gs := by decide +kernel
      exact this _ (by omega)
    refine q _ (some ((2 ^ e.toNat, 2), fg.toNat)) _ (rp_tup upd_same (rpl_cons ?_ (rpl_cons rfl (rpl_cons ?_ rpl_nil)))) ⟨hin, by omega⟩ (hD4.new nt) (G4.new nt)
    · show V.int ((2 : Int) ^ e.toNat) = V.int ((2 ^ e.toNat : Nat) : Int)
      rw [Int.natCast_pow]
      rfl
    · show V.int fg = V.int ((fg.toNat : Nat) : Int)
      rw [Int.toNat_of_nonneg a3]
  refine ⟨_, rfl, _, 5, rfl, rfl, _, rfl, ite2 (fun _ => ?_) (fun _ => ?_)⟩
  · refine ⟨_, rfl, d, L, 9, rfl, hD3, by decide, by decide, fun e H4 a4 b4 hD4 hB4 => ?_⟩
    have G4 := G3.trans (Go.but hD3 hB4 (M := (· = d)) rfl)
    refine ⟨1, e, rfl, rfl, (by show 3 ≤ sizeLine; decide), fun t nt => ?_⟩
    have hin : (1 + e.toNat, 2) ∈ Gs := by
      have : ∀ k, k < 9 → (1 + k, 2) ∈ Gs := by decide +kernel
      exact this _ (by omega)
    refine q _ (some ((1 + e.toNat, 2), 0)) _ (rp_tup upd_same (rpl_cons ?_ (rpl_cons rfl (rpl_cons rfl rpl_nil)))) ⟨hin, by omega⟩ (hD4.new nt) (G4.new nt)
    show V.int (1 + e) = V.int ((1 + e.toNat : Nat) : Int)
    congr 1
    omega
  · refine ⟨_, rfl, (by show 6 ≤ sizeLine; decide), fun l2 nl2 => ?_⟩
    refine ⟨d, L, _, 6, rfl, hD3.new nl2, by decide, by decide, .inr ⟨l2, _, rfl, (hD3.neNew nl2).1, SqL.of upd_same, rfl, fun y H4 hy hD4 hB4 => ?_⟩⟩
    have G4 := (G3.new nl2).trans (Go.but (hD3.new nl2) hB4 (M := (· = d)) rfl)
    obtain ⟨k, rfl, hk⟩ := mem_ints (ns := [2, 4, 5, 6, 7, 8]) hy
    refine ⟨(by show 3 ≤ sizeLine; decide), fun t nt => ?_⟩
    have hk2 : k = 2 ∨ k = 4 ∨ k = 5 ∨ k = 6 ∨ k = 7 ∨ k = 8 := by simpa using hk
    have hin : (k.toNat, 3) ∈ Gs := by
      rcases hk2 with rfl | rfl | rfl | rfl | rfl | rfl <;> decide +kernel
    refine q _ (some ((k.toNat, 3), 0)) _ (rp_tup upd_same (rpl_cons ?_ (rpl_cons rfl (rpl_cons rfl rpl_nil)))) ⟨hin, by omega⟩ (hD4.new nt) (G4.new nt)
    show V.int k = V.int ((k.toNat : Nat) : Int)
    congr 1
    omega
end
end K15

set_option Elab.async false
set_option linter.all false
set_option maxRecDepth 100000
set_option maxHeartbeats 4000000
namespace K15
open PySem PySem.Spec PyProof.Rows L2 OG
open C8 (pss_cut pe_gc)
open StX (pe_callS1)
section
variable {P : Program} {w : World} {K : PySem.W.Frag} {mg : Str → Option Value} {base : Heap}
theorem ok_law (T : Tops K mg) : FnOk P w K mg base CX0 40 T.flaw T.dlaw ["_law_script"] (spLaw K) := by
  have Gl_begin : FnOk P w K mg base CX0 1 T.fl_begin T.dl_begin ["_law_script"] (spBegin K) := ok_begin T
  have Gl_drawn_growth : FnOk P w K mg base CX0 3 T.fl_drawn_growth T.dl_drawn_growth ["_law_draw"] spDrawnG := ok_drawn_growth T
  have Gl_same : FnOk P w K mg base CX0 21 T.fl_same T.dl_same ["_law_found", "_law_due"] (spSame 20) := ok_same T 20
  have Ggreater_growth : FnOk P w K mg base CX0 4 T.fgreater_growth T.dgreater_growth ["one", "other"] spGreater := ok_greater_growth T
  have Gl_greater : FnOk P w K mg base CX0 4 T.fl_greater T.dl_greater ["_law_one", "_law_other"] spGreater := ok_l_greater T
  refine T.Flaw.ok (k := 39) sclaw (fun vs H Q E h => ?_) (fun cdv A outer s H vs Q E hr h => ?_)
  · obtain ⟨a, ns, rfl, _⟩ := h
    rfl
  obtain ⟨a, ns, rfl, hS, hlen, q⟩ := h
  refine ⟨_, (pss_cons (ps_set (i := 1) sclaw.nd rfl (Or.inr rfl) (pe_call Gl_begin (hr.mono (by omega)) (by rfl) T.gl_begin T.Fl_begin.kp T.bl_begin .nil pass0 (pa_cons (pv 0) pa_nil)))
 (pss_cons (ps_for PassesOwn.never rfl (pi_range1 (by rfl) T.mrange (pa_cons pe_int pa_nil)) (pg_name (i := 2) sclaw.nd rfl (Or.inl rfl))
  (pss_cons (ps_setLc (i := 3) (own := [("_law_k", 9)]) rfl sclaw.nd rfl rfl (sw_true rfl rfl rfl (by decide +kernel)) (pi_range1 (by rfl) T.mrange (pa_cons pe_int pa_nil)) (blkOk_by (N := Nlaw) (sc := defScope slaw) (by decide +kernel)) (fun _ _ _ _ _ => (pg_name (i := 9) sclaw.nd rfl (Or.inl rfl))) (fun _ _ _ _ _ => pts_nil) (fun _ _ _ _ _ => (pe_call Gl_drawn_growth (hr.mono (by omega)) (by rfl) T.gl_drawn_growth T.Fl_drawn_growth.kp T.bl_drawn_growth .nil pass0 (pa_cons (pv 1) pa_nil))))
 (pss_cons (ps_set (i := 4) sclaw.nd rfl (Or.inr rfl) (pe_lst pa_nil))
 (pss_cons (ps_for PassesOwn.never rfl (pi_list (pv 3)) (pg_name (i := 5) sclaw.nd rfl (Or.inr rfl))
  (pss_cons (ps_setLc (i := 7) (own := [("_law_other", 10)]) rfl sclaw.nd rfl rfl (sw_true rfl rfl rfl (by decide +kernel)) (pi_list (pv 3)) (blkOk_by (N := Nlaw) (sc := defScope slaw) (by decide +kernel)) (fun _ _ _ _ _ => (pg_name (i := 10) sclaw.nd rfl (Or.inl rfl))) (fun _ _ _ _ _ => pts_nil) (fun _ _ _ _ _ => (pe_call Ggreater_growth (hr.mono (by omega)) (by rfl) T.ggreater_growth T.Fgreater_growth.kp T.bgreater_growth .nil pass0 (pa_cons (pv 5) (pa_cons (pv 10) pa_nil)))))
 (pss_cons (ps_if (pt_not (pt_val (pe_call Gl_same (hr.mono (by omega)) (by rfl) T.gl_same T.Fl_same.kp T.bl_same .nil pass0 (pa_cons (pv 7) (pa_cons (pe_lc (own := [("_law_other", 10)]) rfl sclaw.nd (pi_list (pv 3)) (blkOk_by (N := Nlaw) (sc := defScope slaw) (by decide +kernel)) (fun _ _ _ _ _ => (pg_name (i := 10) sclaw.nd rfl (Or.inl rfl))) (fun _ _ _ _ _ => pts_nil) (fun _ _ _ _ _ => (pe_call Gl_greater (hr.mono (by omega)) (by rfl) T.gl_greater T.Fl_greater.kp T.bl_greater .nil pass0 (pa_cons (pv 5) (pa_cons (pv 10) pa_nil))))) pa_nil)))))
  (pss_one (ps_ret pe_bl))
  pss_nil)
 (pss_one (ps_expr (pe_bm PySem.F.plainAttrs_list PySem.F.slot_list_append PySem.F.type_list_append mt_append (pv 4) (pa_cons (pv 7) pa_nil)))))))
 (pss_one (ps_for PassesOwn.never rfl (pi_range1 (by rfl) T.mrange (pa_cons pe_int pa_nil)) (pg_name (i := 6) sclaw.nd rfl (Or.inr rfl))
  (pss_one (ps_for PassesOwn.never rfl (pi_range1 (by rfl) T.mrange (pa_cons pe_int pa_nil)) (pg_name (i := 8) sclaw.nd rfl (Or.inr rfl))
  (pss_cons (ps_if (pt_cmpR op_ne (pe_ix ix_list (pe_ix ix_list (pv 4) (pv 6) (fun _ _ => rfl)) (pv 8) (fun _ _ => rfl)) (pe_op op_sub pe_int (pe_ix ix_list (pe_ix ix_list (pv 4) (pv 8) (fun _ _ => rfl)) (pv 6) (fun _ _ => rfl))) (nomark _))
  (pss_one (ps_ret pe_bl))
  pss_nil)
 (pss_one (ps_if (PW.pt (pw_and (pt_cmpR op_ge (pe_ix ix_list (pe_ix ix_list (pv 4) (pv 6) (fun _ _ => rfl)) (pv 8) (fun _ _ => rfl)) pe_int (nomark _)) (pw_and1 (pt_not (pt_val (pe_callB (cr_all rfl) (by rfl) T.mall (by decide +kernel) (pa_cons (pe_lc (own := [("_law_c", 11)]) rfl sclaw.nd (pi_range1 (by rfl) T.mrange (pa_cons pe_int pa_nil)) (blkOk_by (N := Nlaw) (sc := defScope slaw) (by decide +kernel)) (fun _ _ _ _ _ => (pg_name (i := 11) sclaw.nd rfl (Or.inl rfl))) (fun _ _ _ _ _ => pts_nil) (fun _ _ _ _ _ => (pe_or (pe_cmpR op_lt (pe_ix (ix_listK (K := K) rfl) (pe_ix (ix_listK (K := K) rfl) (pv 4) (pv 8) (fun _ _ => rfl)) (pv 11) (fun _ _ => rfl)) pe_int (nomark _)) (pe_one (pe_cmpR op_ge (pe_ix (ix_listK (K := K) rfl) (pe_ix (ix_listK (K := K) rfl) (pv 4) (pv 6) (fun _ _ => rfl)) (pv 11) (fun _ _ => rfl)) pe_int (nomark _)))))) pa_nil)))))))
  (pss_one (ps_ret pe_bl))
  pss_nil)))))))))))
 (pss_one (ps_ret (pe_and (pe_cmpR op_eq (pe_call Ggreater_growth (hr.mono (by omega)) (by rfl) T.ggreater_growth T.Fgreater_growth.kp T.bgreater_growth .nil pass0 (pa_cons (pe_tup (pa_cons pe_int (pa_cons pe_int (pa_cons pe_int pa_nil)))) (pa_cons (pe_tup (pa_cons pe_int (pa_cons pe_int (pa_cons pe_int pa_nil)))) pa_nil))) (pe_un un_neg pe_int) (nomark _)) (pe_one (pe_cmpR op_eq (pe_call Ggreater_growth (hr.mono (by omega)) (by rfl) T.ggreater_growth T.Fgreater_growth.kp T.bgreater_growth .nil pass0 (pa_cons (pe_tup (pa_cons pe_int (pa_cons pe_int (pa_cons pe_int pa_nil)))) (pa_cons (pe_tup (pa_cons pe_int (pa_cons pe_int (pa_cons pe_int pa_nil)))) pa_nil))) pe_int (nomark _)))))))), ?_⟩
  refine ⟨_, rfl, a, ns, rfl, hS, fun d L H1 sm nd nL hD => ?_⟩
  refine ⟨5, rfl, by decide, by decide, ?_⟩
  refine for_range (n := 5) (fun i σ H' => (∃ x2 x3 x4 x5 x6 x7 x8 x9 x10 x11, σ = [some (.ref a), some (.ref d), x2, x3, x4, x5, x6, x7, x8, x9, x10, x11]) ∧ Dr H' d L) ⟨⟨_, _, _, _, _, _, _, _, _, _, rfl⟩, hD⟩ (fun i σ H2 hi hP => ?_) (fun σ H2 hP => ?_)
  · obtain ⟨⟨x2, x3, x4, x5, x6, x7, x8, x9, x10, x11, rfl⟩, hD2⟩ := hP
    refine ⟨4, rfl, by decide, by decide, fun S nS => ?_⟩
    refine lc_range (lo := 0) (n := 4) (fun i H' => Dr H' d L ∧ S ≠ d ∧ S ≠ L ∧ ∃ (us : List V) (gs : List Gr), us.length = i ∧ gs.length = i ∧ H' S = some (.lst us) ∧ RpL H' us (gs.map encG) ∧ ∀ g ∈ gs, GOk g)
      ⟨hD2.new nS, (hD2.neNew nS).1, (hD2.neNew nS).2, [], [], rfl, rfl, upd_same, rpl_nil, (fun _ h => by cases h)⟩ (fun j H4 hj hP => ?_) (fun H4 hP => ?_)
    · obtain ⟨hD4, n1, n2, us, gs, hu, hgs, hS4, hR4, hok⟩ := hP
      refine ⟨rfl, yes_go ?_⟩
      refine ⟨_, rfl, d, L, rfl, hD4, fun v g H5 hRv hg hD5 G5 => ?_⟩
      have hS5 := G5.at hS4 n1
      have iS : Imm H5 (upd H5 S (.lst (us ++ [v]))) := (Imm.refl H5).upd fun xs e => by rw [hS5] at e; cases e
      refine ⟨_, hS5, szl (by omega), hD5.upd n1 n2, n1, n2, us ++ [v], gs ++ [g], by rw [List.length_append, hu]; rfl, by rw [List.length_append, hgs]; rfl, upd_same, ?_, fun z hz => ?_⟩
      · rw [List.map_append]
        exact (hR4.to (G5.im.trans iS)).append (rpl_cons (hRv.to iS) rpl_nil)
      · rcases List.mem_append.mp hz with h1 | h1
        · exact hok z h1
        · rw [List.mem_singleton.mp h1]
          exact hg
    · obtain ⟨hD4, n1, n2, us, gs, hu, hgs, hS4, hR4, hok⟩ := hP
      refine ⟨Nat.zero_le _, fun M nM => ?_⟩
      have s5 : Same H4 (upd H4 M (.lst [])) := same_new nM
      have nMd := hD4.neNew nM
      have nMS : M ≠ S := (ne_of_none hS4 nM).symm
      refine ⟨_, rfl, S, rfl, ⟨_, SqL.of (s5 _ _ hS4)⟩, ?_⟩
      have lxs : (gs.map gval).length = 4 := by rw [List.length_map]; exact hgs
      refine for_list (xs := us) (fun i σ H' => (∃ x2 x5 x6 x7 x8 x9 x10 x11, σ = [some (.ref a), some (.ref d), x2, some (.ref S), some (.ref M), x5, x6, x7, x8, x9, x10, x11]) ∧ Dr H' d L ∧ H' S = some (.lst us) ∧ RpL H' us (gs.map encG) ∧ ∃ rs : List Addr, rs.length = i ∧ (∀ r ∈ rs, r ≠ M) ∧ Marks H' M (gs.map gval) rs)
        ⟨⟨_, _, _, _, _, _, _, _, rfl⟩, hD4.new nM, s5 _ _ hS4, hR4.to (Imm.same s5), [], rfl, (fun _ h => by cases h), upd_same, fun j r h => by simp at h⟩ (fun i σ H' _ hP => SqL.of hP.2.2.1) (fun k x σ H6 hx hP => ?_) (fun σ H6 hP => ?_)
      · obtain ⟨⟨y2, y5, y6, y7, y8, y9, y10, y11, rfl⟩, hD6, hS6, hR6, rs, hrs, hrM, hM6⟩ := hP
        obtain ⟨g, hgk, hRx⟩ := rpl_gr hR6 hx
        have hg := hok g (List.mem_of_getElem? hgk)
        have luz : us.length < 100000 := by omega
        have hly : (rowL (gs.map gval) (gval g)).length = us.length := by rw [rowL_len, List.length_map, hgs, hu]
        -- the row
        refine ⟨_, rfl, S, rfl, ⟨_, SqL.of hS6⟩, fun R nR => ?_⟩
        refine lc_list_map (K := K) (rowL (gs.map gval) (gval g)) 10 rfl (fun v => rfl) hly luz hS6 nR (fun j y z H7 Q7 hy hz s7 k7 => ?_) (fun H7 s7 hR7 => ?_)
        · obtain ⟨h, hhk, hRy⟩ := rpl_gr hR6 hy
          have e := rowL_get (x := gval g) (gvals_get hhk)
          rw [hz] at e
          have e2 := Option.some.inj e
          subst e2
          exact ⟨_, rfl, _, rfl, _, _, g, h, rfl, hRx.to (Imm.same s7), hRy.to (Imm.same s7), hg, hok h (List.mem_of_getElem? hhk), k7⟩
        · -- the law's own row
          refine ⟨_, rfl, _, rfl, S, rfl, ⟨_, SqL.of (s7 _ _ hS6)⟩, fun R2 nR2 => ?_⟩
          refine lc_list_map (K := K) (rowL (gs.map gval) (gval g)) 10 rfl (fun v => rfl) hly luz (s7 _ _ hS6) nR2 (fun j y z H8 Q8 hy hz s8 k8 => ?_) (fun H8 s8 hR8 => ?_)
          · obtain ⟨h, hhk, hRy⟩ := rpl_gr hR6 hy
            have e := rowL_get (x := gval g) (gvals_get hhk)
            rw [hz] at e
            have e2 := Option.some.inj e
            subst e2
            exact ⟨_, rfl, _, rfl, _, _, g, h, rfl, hRx.to ((Imm.same s7).trans (Imm.same s8)), hRy.to ((Imm.same s7).trans (Imm.same s8)), hg, hok h (List.mem_of_getElem? hhk), k8⟩
          · refine ⟨_, _, rfl, eq2_flats 19 (s8 _ _ hR7) hR8 (rowL_flat _ _) (by rw [hly]; exact luz), fun H9 s9 => ?_⟩
            refine ⟨true, rfl, iteF ?_⟩
            have s69 := (s7.trans s8).trans s9
            have hM9 := hM6.same s69
            refine ⟨_, rfl, .inl ⟨rfl, _, SqL.of hM9.1⟩, _, rfl, M, _, _, rfl, rfl, hM9.1, szl (by rw [List.length_map]; have := List.getElem?_eq_some_iff.mp hx; obtain ⟨hk, _⟩ := this; omega), ?_⟩
            have hMs := hM6.1
            have nRM : R ≠ M := (ne_of_none hMs nR).symm
            have hS9 := s69 _ _ hS6
            have iM : Imm H9 (upd H9 M (.lst (rs.map V.ref ++ [.ref R]))) := (Imm.refl H9).upd fun xs e => by rw [hM9.1] at e; cases e
            refine ⟨⟨_, _, _, _, _, _, _, _, rfl⟩, (hD6.same s69).upd nMd.1 nMd.2, ?_, (hR6.to (Imm.same s69)).to iM, rs ++ [R], by rw [List.length_append, hrs]; rfl, fun r hr => ?_, ?_, fun j r hj => ?_⟩
            · rw [upd_ne nMS.symm]
              exact hS9
            · rcases List.mem_append.mp hr with h1 | h1
              · exact hrM r h1
              · rw [List.mem_singleton.mp h1]
                exact nRM
            · rw [upd_same, List.map_append]
              rfl
            · by_cases hlt : j < rs.length
              · rw [List.getElem?_append_left hlt] at hj
                obtain ⟨x, h1, h2⟩ := hM9.2 j r hj
                refine ⟨x, h1, ?_⟩
                rw [upd_ne (hrM r (List.mem_of_getElem? hj))]
                exact h2
              · rw [List.getElem?_append_right (by omega)] at hj
                have hj0 : j - rs.length = 0 := by
                  cases hjj : j - rs.length with
                  | zero => rfl
                  | succ m => rw [hjj] at hj; simp at hj
                rw [hj0] at hj
                have er : R = r := Option.some.inj hj
                subst er
                have ejk : j = k := by omega
                subst ejk
                refine ⟨gval g, gvals_get hgk, ?_⟩
                rw [upd_ne nRM]
                exact s9 _ _ (s8 _ _ hR7)
      · obtain ⟨⟨y2, y5, y6, y7, y8, y9, y10, y11, rfl⟩, hD6, hS6, hR6, rs, hrs, hrM, hM6⟩ := hP
        have lrs : rs.length = 4 := by omega
        -- the marks at two places
        have mk : ∀ i : Nat, i < 4 → ∃ r x, rs[i]? = some r ∧ (gs.map gval)[i]? = some x ∧ ∀ H', Same H6 H' → SqL K H' r (rowL (gs.map gval) x) ∧ atI (rs.map V.ref) ((i : Nat) : Int) = some (.ref r) := fun i hi => by
          have h1 : rs[i]? = some rs[i] := List.getElem?_eq_getElem (by omega)
          obtain ⟨x, hx, hrow⟩ := hM6.2 i _ h1
          exact ⟨_, x, h1, hx, fun H' s' => ⟨SqL.of (s' _ _ hrow), atI_get (by rw [List.getElem?_map, h1]; rfl)⟩⟩
        have sq : ∀ H', Same H6 H' → SqL K H' M (rs.map V.ref) := fun H' s' => SqL.of (s' _ _ hM6.1)
        refine ⟨4, rfl, by decide, by decide, ?_⟩
        refine for_range (n := 4) (fun i σ H' => (∃ x2 x5 x6 x7 x8 x9 x10 x11, σ = [some (.ref a), some (.ref d), x2, some (.ref S), some (.ref M), x5, x6, x7, x8, x9, x10, x11]) ∧ Same H6 H') ⟨⟨_, _, _, _, _, _, _, _, rfl⟩, Same.refl H6⟩ (fun ia σ H7 hia hP => ?_) (fun σ H7 hP => ?_)
        · obtain ⟨⟨z2, z5, z6, z7, z8, z9, z10, z11, rfl⟩, s7⟩ := hP
          obtain ⟨ra, xa, hra, hxa, fa⟩ := mk ia hia
          rw [Int.zero_add]
          refine ⟨4, rfl, by decide, by decide, ?_⟩
          refine for_range (n := 4) (fun i σ H' => (∃ x2 x5 x7 x8 x9 x10 x11, σ = [some (.ref a), some (.ref d), x2, some (.ref S), some (.ref M), x5, some (.int ((ia : Nat) : Int)), x7, x8, x9, x10, x11]) ∧ Same H6 H') ⟨⟨_, _, _, _, _, _, _, rfl⟩, s7⟩ (fun ib σ H8 hib hP => ?_) (fun σ H8 hP => ?_)
          · obtain ⟨⟨u2, u5, u7, u8, u9, u10, u11, rfl⟩, s8⟩ := hP
            obtain ⟨rb, xb, hrb, hxb, fb⟩ := mk ib hib
            rw [Int.zero_add]
            have gab := atI_get (rowL_get (x := xa) hxb)
            have gba := atI_get (rowL_get (x := xb) hxa)
            refine ⟨_, rfl, _, rfl, M, _, _, _, rfl, rfl, sq H8 s8, (fa H8 s8).2, _, rfl, ra, _, _, _, rfl, rfl, (fa H8 s8).1, gab, ?_⟩
            refine ⟨_, rfl, _, rfl, M, _, _, _, rfl, rfl, sq H8 s8, (fb H8 s8).2, _, rfl, rb, _, _, _, rfl, rfl, (fb H8 s8).1, gba, 0, _, rfl, rfl, rfl, _, rfl, ite2 (fun z => absurd z (by rw [ord_turn xa xb]; simp)) (fun _ => ?_)⟩
            refine ⟨_, rfl, _, rfl, M, _, _, _, rfl, rfl, sq H8 s8, (fa H8 s8).2, _, rfl, ra, _, _, _, rfl, rfl, (fa H8 s8).1, gab, _, 0, rfl, rfl, _, rfl, ite2 (fun c => ?_) (fun _ => ?_)⟩
            · have c1 : 0 ≤ sgn (xa - xb) := of_decide_eq_true c
              refine ⟨4, rfl, by decide, by decide, fun B nB => ?_⟩
              refine lc_range (lo := 0) (n := 4) (fun i H' => Same H8 H' ∧ H' B = some (.lst ((List.replicate i true).map V.bl))) ⟨same_new nB, upd_same⟩ (fun ic H9 hic hP => ?_) (fun H9 hP => ?_)
              · obtain ⟨s9, hB9⟩ := hP
                obtain ⟨rc, xc, hrc, hxc, fc⟩ := mk ic hic
                have s69 := s8.trans s9
                have gac := atI_get (rowL_get (x := xa) hxc)
                have gbc := atI_get (rowL_get (x := xb) hxc)
                rw [Int.zero_add]
                refine ⟨rfl, yes_go ?_⟩
                have fin : ∀ (b : Bool), b = true → ∃ acc, H9 B = some (.lst acc) ∧ acc.length < sizeLine ∧ Same H8 (upd H9 B (.lst (acc ++ [.bl b]))) ∧ (upd H9 B (.lst (acc ++ [.bl b]))) B = some (.lst ((List.replicate (ic + 1) true).map V.bl)) := fun b hb => by
                  subst hb
                  refine ⟨_, hB9, szl (by rw [List.length_map, List.length_replicate]; omega), Same.upd_new s9 nB, ?_⟩
                  rw [upd_same, List.replicate_succ', List.map_append]
                  rfl
                refine ⟨_, rfl, _, rfl, M, _, _, _, rfl, rfl, sq H9 s69, (fb H9 s69).2, _, rfl, rb, _, _, _, rfl, rfl, (fb H9 s69).1, gbc, _, 0, rfl, rfl, _, rfl, ite2 (fun _ => fin true rfl) (fun c3 => ?_)⟩
                have c4 : ¬ sgn (xb - xc) < 0 := fun z => c3 (decide_eq_true z)
                refine ⟨_, rfl, _, rfl, M, _, _, _, rfl, rfl, sq H9 s69, (fa H9 s69).2, _, rfl, ra, _, _, _, rfl, rfl, (fa H9 s69).1, gac, _, 0, rfl, rfl, fin _ (decide_eq_true ?_)⟩
                rcases ord_three xa xb xc c1 with h | h
                · exact absurd h c4
                · exact h
              · obtain ⟨s9, hB9⟩ := hP
                refine ⟨B, List.replicate 4 true, rfl, SqL.of hB9, ?_⟩
                rw [all_trues]
                refine ⟨true, rfl, iteF ?_⟩
                exact ⟨⟨_, _, _, _, _, _, _, rfl⟩, s8.trans s9⟩
            · exact ⟨⟨_, _, _, _, _, _, _, rfl⟩, s8⟩
          · obtain ⟨⟨u2, u5, u7, u8, u9, u10, u11, rfl⟩, s8⟩ := hP
            exact ⟨⟨_, _, _, _, _, _, _, _, rfl⟩, s8⟩
        · obtain ⟨⟨z2, z5, z6, z7, z8, z9, z10, z11, rfl⟩, s7⟩ := hP
          exact ⟨⟨_, _, _, _, _, _, _, _, _, _, rfl⟩, hD6.same s7⟩
  · obtain ⟨⟨x2, x3, x4, x5, x6, x7, x8, x9, x10, x11, rfl⟩, hD2⟩ := hP
    refine ⟨(by show 3 ≤ sizeLine; decide), fun t1 n1 => ?_⟩
    refine ⟨(by show 3 ≤ sizeLine; decide), fun t2 n2 => ?_⟩
    refine ⟨_, _, some ((3, 2), 0), some ((6, 3), 0), rfl, rp_tup (same_new n2 _ _ upd_same) (rpl_cons rfl (rpl_cons rfl (rpl_cons rfl rpl_nil))), rp_tup upd_same (rpl_cons rfl (rpl_cons rfl (rpl_cons rfl rpl_nil))), ⟨by decide +kernel, by decide⟩, ⟨by decide +kernel, by decide⟩, fun H5 s5 => ?_⟩
    have e1 : sgn (gval (some ((3, 2), 0)) - gval (some ((6, 3), 0))) = -1 := by decide +kernel
    rw [e1]
    refine ⟨1, rfl, rfl, _, rfl, ite2 (fun _ => ?_) (fun z => absurd (by decide +kernel) z)⟩
    refine ⟨(by show 3 ≤ sizeLine; decide), fun t3 n3 => ?_⟩
    refine ⟨(by show 3 ≤ sizeLine; decide), fun t4 n4 => ?_⟩
    refine ⟨_, _, some ((2, 2), 1), some ((2, 2), 0), rfl, rp_tup (same_new n4 _ _ upd_same) (rpl_cons rfl (rpl_cons rfl (rpl_cons rfl rpl_nil))), rp_tup upd_same (rpl_cons rfl (rpl_cons rfl (rpl_cons rfl rpl_nil))), ⟨by decide +kernel, by decide⟩, ⟨by decide +kernel, by decide⟩, fun H6 s6 => ?_⟩
    have e2 : sgn (gval (some ((2, 2), 1)) - gval (some ((2, 2), 0))) = 1 := by decide +kernel
    rw [e2]
    refine ⟨rfl, ?_⟩
    have e3 : decide (V.int 1 = V.int 1) = true := by decide +kernel
    rw [e3]
    exact q H6
end
theorem all_mk {K : PySem.W.Frag} {h : Heap} {mg : Str → Option Value} {fa : Addr} (X : K.In h) (G : h.Ns mainGlobals mg) (hfa : mg "law" = some (.ref fa))
    {f1 : Addr} {od1 an1 : Option Addr} {sl1 : Array (Option Value)} {oc1 kV1 dc1 pm1 cd1 ct1 : Value}
    {f2 : Addr} {od2 an2 : Option Addr} {sl2 : Array (Option Value)} {oc2 kV2 dc2 pm2 cd2 ct2 : Value}
    {f3 : Addr} {od3 an3 : Option Addr} {sl3 : Array (Option Value)} {oc3 kV3 dc3 pm3 cd3 ct3 : Value}
    {f4 : Addr} {od4 an4 : Option Addr} {sl4 : Array (Option Value)} {oc4 kV4 dc4 pm4 cd4 ct4 : Value}
    {f5 : Addr} {od5 an5 : Option Addr} {sl5 : Array (Option Value)} {oc5 kV5 dc5 pm5 cd5 ct5 : Value}
    {f6 : Addr} {od6 an6 : Option Addr} {sl6 : Array (Option Value)} {oc6 kV6 dc6 pm6 cd6 ct6 : Value}
    {f7 : Addr} {od7 an7 : Option Addr} {sl7 : Array (Option Value)} {oc7 kV7 dc7 pm7 cd7 ct7 : Value}
    {f8 : Addr} {od8 an8 : Option Addr} {sl8 : Array (Option Value)} {oc8 kV8 dc8 pm8 cd8 ct8 : Value}
    {f9 : Addr} {od9 an9 : Option Addr} {sl9 : Array (Option Value)} {oc9 kV9 dc9 pm9 cd9 ct9 : Value}
    {f10 : Addr} {od10 an10 : Option Addr} {sl10 : Array (Option Value)} {oc10 kV10 dc10 pm10 cd10 ct10 : Value}
    {f11 : Addr} {od11 an11 : Option Addr} {sl11 : Array (Option Value)} {oc11 kV11 dc11 pm11 cd11 ct11 : Value}
    {f12 : Addr} {od12 an12 : Option Addr} {sl12 : Array (Option Value)} {oc12 kV12 dc12 pm12 cd12 ct12 : Value}
    {f13 : Addr} {od13 an13 : Option Addr} {sl13 : Array (Option Value)} {oc13 kV13 dc13 pm13 cd13 ct13 : Value}
    {f14 : Addr} {od14 an14 : Option Addr} {sl14 : Array (Option Value)} {oc14 kV14 dc14 pm14 cd14 ct14 : Value}
    {f15 : Addr} {od15 an15 : Option Addr} {sl15 : Array (Option Value)} {oc15 kV15 dc15 pm15 cd15 ct15 : Value}
    {f16 : Addr} {od16 an16 : Option Addr} {sl16 : Array (Option Value)} {oc16 kV16 dc16 pm16 cd16 ct16 : Value}
    (a1 : PySem.W.nsIn K mainGlobals "sign_of" = some (some (.ref f1))) (l1 : K.lookup f1 = some ⟨oc1, od1, .func (PySem.W.fnOf "sign_of" "sign_of" (defArgs ssign_of) (defBody ssign_of) (defScope ssign_of) .none kV1 dc1 pm1 an1 cd1 ct1), sl1⟩) (c1 : PySem.W.codeIn K cd1 "sign_of" = true) (k1 : PySem.W.keepIn K (.ref f1) = true)
    (a2 : PySem.W.nsIn K mainGlobals "power" = some (some (.ref f2))) (l2 : K.lookup f2 = some ⟨oc2, od2, .func (PySem.W.fnOf "power" "power" (defArgs spower) (defBody spower) (defScope spower) .none kV2 dc2 pm2 an2 cd2 ct2), sl2⟩) (c2 : PySem.W.codeIn K cd2 "power" = true) (k2 : PySem.W.keepIn K (.ref f2) = true)
    (a3 : PySem.W.nsIn K mainGlobals "told_growth" = some (some (.ref f3))) (l3 : K.lookup f3 = some ⟨oc3, od3, .func (PySem.W.fnOf "told_growth" "told_growth" (defArgs stold_growth) (defBody stold_growth) (defScope stold_growth) .none kV3 dc3 pm3 an3 cd3 ct3), sl3⟩) (c3 : PySem.W.codeIn K cd3 "told_growth" = true) (k3 : PySem.W.keepIn K (.ref f3) = true)
    (a4 : PySem.W.nsIn K mainGlobals "greater_growth" = some (some (.ref f4))) (l4 : K.lookup f4 = some ⟨oc4, od4, .func (PySem.W.fnOf "greater_growth" "greater_growth" (defArgs sgreater_growth) (defBody sgreater_growth) (defScope sgreater_growth) .none kV4 dc4 pm4 an4 cd4 ct4), sl4⟩) (c4 : PySem.W.codeIn K cd4 "greater_growth" = true) (k4 : PySem.W.keepIn K (.ref f4) = true)
    (a5 : PySem.W.nsIn K mainGlobals "power_order" = some (some (.ref f5))) (l5 : K.lookup f5 = some ⟨oc5, od5, .func (PySem.W.fnOf "power_order" "power_order" (defArgs spower_order) (defBody spower_order) (defScope spower_order) .none kV5 dc5 pm5 an5 cd5 ct5), sl5⟩) (c5 : PySem.W.codeIn K cd5 "power_order" = true) (k5 : PySem.W.keepIn K (.ref f5) = true)
    (a6 : PySem.W.nsIn K mainGlobals "whole_power" = some (some (.ref f6))) (l6 : K.lookup f6 = some ⟨oc6, od6, .func (PySem.W.fnOf "whole_power" "whole_power" (defArgs swhole_power) (defBody swhole_power) (defScope swhole_power) .none kV6 dc6 pm6 an6 cd6 ct6), sl6⟩) (c6 : PySem.W.codeIn K cd6 "whole_power" = true) (k6 : PySem.W.keepIn K (.ref f6) = true)
    (a7 : PySem.W.nsIn K mainGlobals "_law_begin" = some (some (.ref f7))) (l7 : K.lookup f7 = some ⟨oc7, od7, .func (PySem.W.fnOf "_law_begin" "_law_begin" (defArgs sl_begin) (defBody sl_begin) (defScope sl_begin) .none kV7 dc7 pm7 an7 cd7 ct7), sl7⟩) (c7 : PySem.W.codeIn K cd7 "_law_begin" = true) (k7 : PySem.W.keepIn K (.ref f7) = true)
    (a8 : PySem.W.nsIn K mainGlobals "_law_take" = some (some (.ref f8))) (l8 : K.lookup f8 = some ⟨oc8, od8, .func (PySem.W.fnOf "_law_take" "_law_take" (defArgs sl_take) (defBody sl_take) (defScope sl_take) .none kV8 dc8 pm8 an8 cd8 ct8), sl8⟩) (c8 : PySem.W.codeIn K cd8 "_law_take" = true) (k8 : PySem.W.keepIn K (.ref f8) = true)
    (a9 : PySem.W.nsIn K mainGlobals "_law_raised" = some (some (.ref f9))) (l9 : K.lookup f9 = some ⟨oc9, od9, .func (PySem.W.fnOf "_law_raised" "_law_raised" (defArgs sl_raised) (defBody sl_raised) (defScope sl_raised) .none kV9 dc9 pm9 an9 cd9 ct9), sl9⟩) (c9 : PySem.W.codeIn K cd9 "_law_raised" = true) (k9 : PySem.W.keepIn K (.ref f9) = true)
    (a10 : PySem.W.nsIn K mainGlobals "_law_pick" = some (some (.ref f10))) (l10 : K.lookup f10 = some ⟨oc10, od10, .func (PySem.W.fnOf "_law_pick" "_law_pick" (defArgs sl_pick) (defBody sl_pick) (defScope sl_pick) .none kV10 dc10 pm10 an10 cd10 ct10), sl10⟩) (c10 : PySem.W.codeIn K cd10 "_law_pick" = true) (k10 : PySem.W.keepIn K (.ref f10) = true)
    (a11 : PySem.W.nsIn K mainGlobals "_law_drawn_growth" = some (some (.ref f11))) (l11 : K.lookup f11 = some ⟨oc11, od11, .func (PySem.W.fnOf "_law_drawn_growth" "_law_drawn_growth" (defArgs sl_drawn_growth) (defBody sl_drawn_growth) (defScope sl_drawn_growth) .none kV11 dc11 pm11 an11 cd11 ct11), sl11⟩) (c11 : PySem.W.codeIn K cd11 "_law_drawn_growth" = true) (k11 : PySem.W.keepIn K (.ref f11) = true)
    (a12 : PySem.W.nsIn K mainGlobals "_law_same" = some (some (.ref f12))) (l12 : K.lookup f12 = some ⟨oc12, od12, .func (PySem.W.fnOf "_law_same" "_law_same" (defArgs sl_same) (defBody sl_same) (defScope sl_same) .none kV12 dc12 pm12 an12 cd12 ct12), sl12⟩) (c12 : PySem.W.codeIn K cd12 "_law_same" = true) (k12 : PySem.W.keepIn K (.ref f12) = true)
    (a13 : PySem.W.nsIn K mainGlobals "_law_signum" = some (some (.ref f13))) (l13 : K.lookup f13 = some ⟨oc13, od13, .func (PySem.W.fnOf "_law_signum" "_law_signum" (defArgs sl_signum) (defBody sl_signum) (defScope sl_signum) .none kV13 dc13 pm13 an13 cd13 ct13), sl13⟩) (c13 : PySem.W.codeIn K cd13 "_law_signum" = true) (k13 : PySem.W.keepIn K (.ref f13) = true)
    (a14 : PySem.W.nsIn K mainGlobals "_law_whole_root" = some (some (.ref f14))) (l14 : K.lookup f14 = some ⟨oc14, od14, .func (PySem.W.fnOf "_law_whole_root" "_law_whole_root" (defArgs sl_whole_root) (defBody sl_whole_root) (defScope sl_whole_root) .none kV14 dc14 pm14 an14 cd14 ct14), sl14⟩) (c14 : PySem.W.codeIn K cd14 "_law_whole_root" = true) (k14 : PySem.W.keepIn K (.ref f14) = true)
    (a15 : PySem.W.nsIn K mainGlobals "_law_greater" = some (some (.ref f15))) (l15 : K.lookup f15 = some ⟨oc15, od15, .func (PySem.W.fnOf "_law_greater" "_law_greater" (defArgs sl_greater) (defBody sl_greater) (defScope sl_greater) .none kV15 dc15 pm15 an15 cd15 ct15), sl15⟩) (c15 : PySem.W.codeIn K cd15 "_law_greater" = true) (k15 : PySem.W.keepIn K (.ref f15) = true)
    (a16 : PySem.W.nsIn K mainGlobals "law" = some (some (.ref f16))) (l16 : K.lookup f16 = some ⟨oc16, od16, .func (PySem.W.fnOf "law" "law" (defArgs slaw) (defBody slaw) (defScope slaw) .none kV16 dc16 pm16 an16 cd16 ct16), sl16⟩) (c16 : PySem.W.codeIn K cd16 "law" = true) (k16 : PySem.W.keepIn K (.ref f16) = true)
    (z1 : PySem.W.nsIn K mainGlobals "abs" = some none)
    (z2 : PySem.W.nsIn K mainGlobals "all" = some none)
    (z3 : PySem.W.nsIn K mainGlobals "bool" = some none)
    (z4 : PySem.W.nsIn K mainGlobals "int" = some none)
    (z5 : PySem.W.nsIn K mainGlobals "isinstance" = some none)
    (z6 : PySem.W.nsIn K mainGlobals "len" = some none)
    (z7 : PySem.W.nsIn K mainGlobals "list" = some none)
    (z8 : PySem.W.nsIn K mainGlobals "range" = some none)
    (z9 : PySem.W.nsIn K mainGlobals "str" = some none)
    (z10 : PySem.W.nsIn K mainGlobals "tuple" = some none)
    (z11 : PySem.W.nsIn K mainGlobals "zip" = some none) :
    ∃ T : Tops K mg, T.flaw = fa := by
  have e := hfa.symm.trans (PySem.W.mg_of X G a16)
  refine ⟨{ fsign_of := f1, dsign_of := _, Fsign_of := (fun_mk (st := ssign_of) l1 c1 k1), gsign_of := (PySem.W.mg_of X G a1), fpower := f2, dpower := _, Fpower := (fun_mk (st := spower) l2 c2 k2), gpower := (PySem.W.mg_of X G a2), ftold_growth := f3, dtold_growth := _, Ftold_growth := (fun_mk (st := stold_growth) l3 c3 k3), gtold_growth := (PySem.W.mg_of X G a3), fgreater_growth := f4, dgreater_growth := _, Fgreater_growth := (fun_mk (st := sgreater_growth) l4 c4 k4), ggreater_growth := (PySem.W.mg_of X G a4), fpower_order := f5, dpower_order := _, Fpower_order := (fun_mk (st := spower_order) l5 c5 k5), gpower_order := (PySem.W.mg_of X G a5), fwhole_power := f6, dwhole_power := _, Fwhole_power := (fun_mk (st := swhole_power) l6 c6 k6), gwhole_power := (PySem.W.mg_of X G a6), fl_begin := f7, dl_begin := _, Fl_begin := (fun_mk (st := sl_begin) l7 c7 k7), gl_begin := (PySem.W.mg_of X G a7), fl_take := f8, dl_take := _, Fl_take := (fun_mk (st := sl_take) l8 c8 k8), gl_take := (PySem.W.mg_of X G a8), fl_raised := f9, dl_raised := _, Fl_raised := (fun_mk (st := sl_raised) l9 c9 k9), gl_raised := (PySem.W.mg_of X G a9), fl_pick := f10, dl_pick := _, Fl_pick := (fun_mk (st := sl_pick) l10 c10 k10), gl_pick := (PySem.W.mg_of X G a10), fl_drawn_growth := f11, dl_drawn_growth := _, Fl_drawn_growth := (fun_mk (st := sl_drawn_growth) l11 c11 k11), gl_drawn_growth := (PySem.W.mg_of X G a11), fl_same := f12, dl_same := _, Fl_same := (fun_mk (st := sl_same) l12 c12 k12), gl_same := (PySem.W.mg_of X G a12), fl_signum := f13, dl_signum := _, Fl_signum := (fun_mk (st := sl_signum) l13 c13 k13), gl_signum := (PySem.W.mg_of X G a13), fl_whole_root := f14, dl_whole_root := _, Fl_whole_root := (fun_mk (st := sl_whole_root) l14 c14 k14), gl_whole_root := (PySem.W.mg_of X G a14), fl_greater := f15, dl_greater := _, Fl_greater := (fun_mk (st := sl_greater) l15 c15 k15), gl_greater := (PySem.W.mg_of X G a15), flaw := f16, dlaw := _, Flaw := (fun_mk (st := slaw) l16 c16 k16), glaw := (PySem.W.mg_of X G a16), mabs := PySem.W.mg_none_of X G z1, mall := PySem.W.mg_none_of X G z2, mbool := PySem.W.mg_none_of X G z3, mint := PySem.W.mg_none_of X G z4, misinstance := PySem.W.mg_none_of X G z5, mlen := PySem.W.mg_none_of X G z6, mlist := PySem.W.mg_none_of X G z7, mrange := PySem.W.mg_none_of X G z8, mstr := PySem.W.mg_none_of X G z9, mtuple := PySem.W.mg_none_of X G z10, mzip := PySem.W.mg_none_of X G z11 }, ?_⟩
  cases e
  rfl
end K15
open PySem PySem.W PyProof.Rows
set_option maxRecDepth 100000 in
set_option maxHeartbeats 0 in
theorem PySem.Challenge.cw_outgrow_k15_whole_growths_are_ordered_holds : PySem.Challenge.rw_outgrow_k15_whole_growths_are_ordered.Holds := by
  w_on; o_law; k_head; (case hw => w_witness2)
  k_fill
  refine L2.walk_of (l := PySem.Challenge.rw_outgrow_k15_whole_growths_are_ordered) (n := 63) (k := 40) (x := "_law_script") (CX := fun _ => L2.CX0) (sp := fun w => OG.spLaw _) rfl (by decide) rfl ⟨rfl, by decide, by decide⟩ (fun w h Y => PySem.W.kIn_of Y) ?F (fun _ _ a ns hl _ hS => ⟨a, ns, rfl, hS, hl, fun _ => rfl⟩) (fun _ _ _ _ _ h => h)
  case F =>
    intro w mg fa h KX G hmg
    have hT := K15.all_mk KX G hmg (by k_is) (by k_is) (by k_is) (by k_is) (by k_is) (by k_is) (by k_is) (by k_is) (by k_is) (by k_is) (by k_is) (by k_is) (by k_is) (by k_is) (by k_is) (by k_is) (by k_is) (by k_is) (by k_is) (by k_is) (by k_is) (by k_is) (by k_is) (by k_is) (by k_is) (by k_is) (by k_is) (by k_is) (by k_is) (by k_is) (by k_is) (by k_is) (by k_is) (by k_is) (by k_is) (by k_is) (by k_is) (by k_is) (by k_is) (by k_is) (by k_is) (by k_is) (by k_is) (by k_is) (by k_is) (by k_is) (by k_is) (by k_is) (by k_is) (by k_is) (by k_is) (by k_is) (by k_is) (by k_is) (by k_is) (by k_is) (by k_is) (by k_is) (by k_is) (by k_is) (by k_is) (by k_is) (by k_is) (by k_is) (by k_is) (by k_is) (by k_is) (by k_is) (by k_is) (by k_is) (by k_is) (by k_is) (by k_is) (by k_is) (by k_is)
    obtain ⟨T, rfl⟩ := hT
    exact ⟨T.dlaw, T.blaw, fun base _ _ => K15.ok_law T⟩
