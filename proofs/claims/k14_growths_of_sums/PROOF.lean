import PyProof.Rows.All
import Wide.All
import OpenK.AllK
import Wide.FinOn
import HandS.ForMost
import HandS.Walk
import HandS.Codes
import HandS.IsInst
import HandS.Style
import HandS.TupAny
import HandS.FStr
import HandS.CallLocal
import HandS.More
import HandS.Zip
import HandS.Star
import HandS.SortRule
import HandS.Conv
import HandS.Wide
import HandS.WideBits
import PyProof.ReprRoads
import PyProof.ReprBulk
import KE.DataAny
import KE.DataMinMax
import HandS.TryMany
import HandS.Exc
import HandS.ExcInit
import HandS.ExcIs
import HandS.ExcField
import HandS.HotCalls
import HandS.Lambda
import HandS.ClsMeth
import KE.KExcIs
import HandS.WordsExc
import HandS.Defaults
import HandS.EndOwn
import PySem.Challenge.RW_outgrow_k14_growths_of_sums
set_option Elab.async false
set_option linter.all false
set_option maxRecDepth 100000
set_option maxHeartbeats 4000000
namespace OG
open PySem PySem.Spec PyProof.Rows L2
open C8 (pss_cut pe_gc)

/-! ### heaps -/
theorem same_new {H : Hp} {p : Addr} {o : HO} (h : H p = none) : Same H (upd H p o) := fun b u e => by
  rw [upd_ne (ne_of_none e h)]
  exact e
/-- only the object at d may differ -/
def But (d : Addr) (H H' : Hp) : Prop := ∀ b, b ≠ d → H' b = H b
theorem But.refl (d : Addr) (H : Hp) : But d H H := fun _ _ => rfl
theorem But.trans {d : Addr} {H H1 H2 : Hp} (a : But d H H1) (b : But d H1 H2) : But d H H2 := fun x h => (b x h).trans (a x h)
theorem but_upd {d : Addr} {H : Hp} {o : HO} : But d H (upd H d o) := fun _ h => upd_ne h
/-- all that was tracked stands as it was, but for what M tells -/
def Sx (M : Addr → Prop) (H H' : Hp) : Prop := ∀ b u, ¬ M b → H b = some u → H' b = some u
theorem Sx.refl (M : Addr → Prop) (H : Hp) : Sx M H H := fun _ _ _ h => h
theorem Sx.trans {M : Addr → Prop} {H H1 H2 : Hp} (a : Sx M H H1) (b : Sx M H1 H2) : Sx M H H2 := fun c u n h => b c u n (a c u n h)
theorem Sx.of_same {M : Addr → Prop} {H H' : Hp} (a : Same H H') : Sx M H H' := fun b u _ h => a b u h
theorem Sx.of_but {M : Addr → Prop} {d : Addr} {H H' : Hp} (a : But d H H') (m : M d) : Sx M H H' := fun b u n h => by
  rw [a b (fun e => n (e ▸ m))]
  exact h
theorem Sx.mono {M N : Addr → Prop} {H H' : Hp} (a : Sx M H H') (h : ∀ b, M b → N b) : Sx N H H' := fun b u n e => a b u (fun m => n (h b m)) e
theorem Sx.upd_in {M : Addr → Prop} {H H' : Hp} {p : Addr} {o : HO} (a : Sx M H H') (m : M p) : Sx M H (upd H' p o) := fun b u n e => by
  have z : b ≠ p := fun z => n (by rw [z]; exact m)
  rw [upd_ne z]
  exact a b u n e
/-- what was not tracked ahead may be written -/
theorem Sx.upd_new {M : Addr → Prop} {H H' : Hp} {p : Addr} {o : HO} (a : Sx M H H') (h : H p = none) : Sx M H (upd H' p o) := fun b u n e => by
  rw [upd_ne (ne_of_none e h)]
  exact a b u n e
theorem Same.upd_new {H H' : Hp} {p : Addr} {o : HO} (a : Same H H') (h : H p = none) : Same H (upd H' p o) := fun b u e => by
  rw [upd_ne (ne_of_none e h)]
  exact a b u e
theorem but_none {d : Addr} {H H' : Hp} (a : But d H H') {p : Addr} (h : H' p = none) (hd : ∃ u, H' d = some u) : H p = none := by
  by_cases e : p = d
  · subst e
    obtain ⟨u, q⟩ := hd
    rw [q] at h
    cases h
  · rw [← a p e]
    exact h
theorem sz {n : Nat} (h : n ≤ 100000) : n ≤ sizeLine := Nat.le_trans h (by decide)
theorem szl {n : Nat} (h : n < 100000) : n < sizeLine := Nat.lt_of_lt_of_le h (by decide)

/-! ### texts -/
abbrev S (l : List Nat) : Str := ⟨l.toArray⟩
abbrev tl (x : Str) : List Nat := x.cps.toList
theorem S_tl (x : Str) : S (tl x) = x := by cases x; rfl
theorem len_tl (x : Str) : x.length = (tl x).length := by simp [Str.length, tl]
theorem len_S (l : List Nat) : (S l).length = l.length := by simp [Str.length, S]
theorem tl_S (l : List Nat) : tl (S l) = l := rfl

/-! ### the drawing -/
/-- the drawing's own list at d: the script's copy at L, a place, a rest, a seed -/
def Dr (H : Hp) (d L : Addr) : Prop := ∃ (ns : List Int) (i r s : Int), H d = some (.lst [.ref L, .int i, .int r, .int s]) ∧ H L = some (.lst (ns.map V.int)) ∧ 0 ≤ i ∧ 0 ≤ r ∧ 0 ≤ s ∧ s < 2147483647
theorem Dr.ne {H : Hp} {d L : Addr} (h : Dr H d L) : L ≠ d := by
  obtain ⟨ns, i, r, s, hd, hL, _⟩ := h
  refine ne_of hL hd fun z => ?_
  have z2 := HO.lst.inj z
  cases ns with
  | nil => cases z2
  | cons n r =>
    have z3 := (List.cons.inj z2).1
    cases z3
theorem Dr.some {H : Hp} {d L : Addr} (h : Dr H d L) : ∃ u, H d = some u := by
  obtain ⟨ns, i, r, s, hd, _⟩ := h
  exact ⟨_, hd⟩
theorem Dr.someL {H : Hp} {d L : Addr} (h : Dr H d L) : ∃ u, H L = Option.some u := by
  obtain ⟨ns, i, r, s, hd, hL, _⟩ := h
  exact ⟨_, hL⟩
theorem Dr.same {H H' : Hp} {d L : Addr} (h : Dr H d L) (a : Same H H') : Dr H' d L := by
  obtain ⟨ns, i, r, s, hd, hL, q⟩ := h
  exact ⟨ns, i, r, s, a _ _ hd, a _ _ hL, q⟩
theorem Dr.at {H H' : Hp} {d L : Addr} (h : Dr H d L) (a : H' d = H d) (b : H' L = H L) : Dr H' d L := by
  obtain ⟨ns, i, r, s, hd, hL, q⟩ := h
  exact ⟨ns, i, r, s, a.trans hd, b.trans hL, q⟩
theorem Dr.upd {H : Hp} {d L p : Addr} {o : HO} (h : Dr H d L) (n1 : p ≠ d) (n2 : p ≠ L) : Dr (upd H p o) d L := h.at (upd_ne n1.symm) (upd_ne n2.symm)
theorem Dr.new {H : Hp} {d L p : Addr} {o : HO} (h : Dr H d L) (n : H p = none) : Dr (L2.upd H p o) d L := h.same (same_new n)
theorem Dr.neNew {H : Hp} {d L p : Addr} (h : Dr H d L) (n : H p = none) : p ≠ d ∧ p ≠ L := by
  obtain ⟨u, q⟩ := h.some
  obtain ⟨u2, q2⟩ := h.someL
  exact ⟨(ne_of_none q n).symm, (ne_of_none q2 n).symm⟩
theorem dr_set {H : Hp} {d L : Addr} {ns : List Int} {i r s : Int} (hL : H L = some (.lst (ns.map V.int))) (ne : L ≠ d) (h1 : 0 ≤ i) (h2 : 0 ≤ r) (h3 : 0 ≤ s) (h4 : s < 2147483647) :
    Dr (upd H d (.lst [.ref L, .int i, .int r, .int s])) d L := ⟨ns, i, r, s, upd_same, by rw [upd_ne ne]; exact hL, h1, h2, h3, h4⟩
/-- _law_take(draw, sides) -/
def spTake : Sp := fun vs H Q _ => ∃ (d L : Addr) (k : Int), vs = [.ref d, .int k] ∧ Dr H d L ∧ 1 ≤ k ∧ k < 1073741824 ∧
  ∀ (g : Int) (H' : Hp), 0 ≤ g → g < k → Dr H' d L → But d H H' → Q (.int g) H'
/-- _law_begin(script) -/
def spBegin (K : PySem.W.Frag) : Sp := fun vs H Q _ => ∃ (a : Addr) (ns : List Int), vs = [.ref a] ∧ SqL K H a (ns.map V.int) ∧
  ∀ (d L : Addr) (H' : Hp), Same H H' → H d = none → H L = none → Dr H' d L → Q (.ref d) H'
/-- _law_pick(draw, row), row a text | a list of texts -/
def spPick (K : PySem.W.Frag) : Sp := fun vs H Q _ => ∃ (d L : Addr) (x : V) (n : Nat), vs = [.ref d, x] ∧ Dr H d L ∧ 0 < n ∧ n < 100000 ∧
  ((∃ z : Str, x = .str z ∧ z.length = n ∧ ∀ (c : Nat) (H' : Hp), c ∈ tl z → Dr H' d L → But d H H' → Q (.str ⟨#[c]⟩) H') ∨
   (∃ (a : Addr) (xs : List V), x = .ref a ∧ a ≠ d ∧ SqL K H a xs ∧ xs.length = n ∧ ∀ (y : V) (H' : Hp), y ∈ xs → Dr H' d L → But d H H' → Q y H'))
/-- what a SqL tells stays where its place is not written -/
theorem SqL.but {K : PySem.W.Frag} {H H' : Hp} {d a : Addr} {xs : List V} (h : SqL K H a xs) (b : But d H H') (n : a ≠ d) : SqL K H' a xs := by
  rcases h with (h | ⟨o, h⟩) | h
  · exact .inl (.inl (by rw [b a n]; exact h))
  · exact .inl (.inr ⟨o, by rw [b a n]; exact h⟩)
  · exact .inr h
theorem SqL.sx {K : PySem.W.Frag} {M : Addr → Prop} {H H' : Hp} {a : Addr} {xs : List V} (h : SqL K H a xs) (b : Sx M H H') (n : ¬ M a) : SqL K H' a xs := by
  rcases h with (h | ⟨o, h⟩) | h
  · exact .inl (.inl (b _ _ n h))
  · exact .inl (.inr ⟨o, b _ _ n h⟩)
  · exact .inr h

theorem mod_lt {a k : Int} (h : 1 ≤ k) : 0 ≤ a % k ∧ a % k < k := ⟨Int.emod_nonneg _ (by omega), Int.emod_lt_of_pos _ (by omega)⟩
theorem atI_lt {α : Type} {xs : List α} {g : Int} (h0 : 0 ≤ g) (h1 : g < (xs.length : Int)) : ∃ v, atI xs g = some v ∧ v ∈ xs := by
  have hk : g.toNat < xs.length := by omega
  have e : g = ((g.toNat : Nat) : Int) := by omega
  refine ⟨xs[g.toNat], ?_, List.getElem_mem hk⟩
  have q : atI xs ((g.toNat : Nat) : Int) = some xs[g.toNat] := atI_nat (List.getElem?_eq_getElem hk)
  rw [← e] at q
  exact q
theorem cut_len (xs : List V) (lo hi : Option Int) : (cutV xs lo hi).length ≤ xs.length := cutV_length xs lo hi
theorem cut_map (ns : List Int) (lo hi : Option Int) : ∃ ms : List Int, cutV (ns.map V.int) lo hi = ms.map V.int := by
  refine ⟨(ns.drop (HT.sIx ns.length 0 lo)).take (HT.sIx ns.length ns.length hi - HT.sIx ns.length 0 lo), ?_⟩
  unfold cutV
  rw [List.length_map, List.map_take, List.map_drop]
/-! ### a comprehension over a text's signs, its element of a plain value -/
theorem lc_str_val {z : Str} {g : TG} {te : TE} {vs : List Nat} {σ : L2.St} {H1 : Hp} {D : Addr} {Qd : Hp → Prop} (f : Nat → V) (i0 : Nat) (hg : g = gName i0) (hw : ∀ v, wipe ((wipe σ vs).set i0 v) vs = wipe σ vs) (hz : z.length < 100000) (hD : H1 D = none)
    (he : ∀ c ∈ tl z, ∀ (H2 : Hp) (Q : VK), Same H1 H2 → Q (f c) H2 → te ((wipe σ vs).set i0 (some (.str ⟨#[c]⟩))) H2 Q)
    (hd : ∀ H', Same H1 H' → H' D = some (.lst ((tl z).map f)) → Qd H') :
    ∃ W : Nat → Nat → Hp → Prop, (∃ m, W 0 m (upd H1 D (.lst []))) ∧ ∀ i m H, W i m H →
      ((Its z).stop i H ∧ Qd H) ∨ ((Its z).go i H ∧ ∃ Nx : Hp → Prop, (∀ H', Nx H' → ∃ m', m' < m ∧ W (i + 1) m' H') ∧ ∀ x H', (Its z).yld i H x H' → g x (wipe σ vs) H' fun σ2 H2 => wipe σ2 vs = wipe σ vs ∧ tYes σ2 H2 fun b H3 =>
        if b = true then te σ2 H3 fun y H4 => ∃ acc, H4 D = some (.lst acc) ∧ acc.length < sizeLine ∧ Nx (upd H4 D (.lst (acc ++ [y]))) else Nx H3) := by
  subst hg
  have el : z.cps.size = (tl z).length := by simp [tl]
  refine lc_it walk_str (fun i H' => Same H1 H' ∧ H' D = some (.lst (((tl z).take i).map f))) ⟨same_new hD, by rw [upd_same]; rfl⟩ (fun _ _ _ _ => trivial) (fun i x H H' hi hP hY => ?_) (fun H' hP => ?_)
  · obtain ⟨rfl, c, hc, rfl⟩ := hY
    obtain ⟨sm, hl⟩ := hP
    have hc2 : (tl z)[i]? = some c := by
      have q : z.cps.toList[i]? = z.cps[i]? := by simp
      exact q.trans hc
    refine ⟨hw _, ?_⟩
    dsimp only [tYes]
    rw [if_pos rfl]
    refine he c (List.mem_of_getElem? hc2) _ _ sm ?_
    refine ⟨_, hl, ?_, ?_, ?_⟩
    · rw [List.length_map, List.length_take]
      have := len_tl z
      exact szl (by omega)
    · exact Same.upd_new sm hD
    · rw [upd_same, List.take_add_one, hc2, List.map_append]
      rfl
  · obtain ⟨sm, hl⟩ := hP
    refine hd H' sm ?_
    rw [el, List.take_length] at hl
    exact hl
theorem yes_go {σ : L2.St} {H : Hp} {A B : Hp → Prop} (h : A H) : tYes σ H (fun b H3 => if b = true then A H3 else B H3) := h
theorem len_app (a b : Str) : (a ++ b).length = a.length + b.length := PySem.Str.length_append a b
theorem join1_len : ∀ cs : List Nat, (TL.joinL [] (cs.map fun c => [c])) = cs
  | [] => rfl
  | [c] => rfl
  | c :: e :: r => by
    have ih := join1_len (e :: r)
    show [c] ++ ([] ++ TL.joinL [] ((e :: r).map fun c => [c])) = c :: e :: r
    rw [ih]
    rfl
/-- ''.join of signs -/
theorem join_signs (cs : List Nat) : Txt.join "" (cs.map fun c => S [c]) = S cs := by
  have e := SX.join_S [] (cs.map fun c => [c])
  rw [join1_len, List.map_map] at e
  exact e
theorem sum_ones : ∀ cs : List Nat, ((cs.map fun c => S [c]).map (·.length)).sum = cs.length
  | [] => rfl
  | c :: r => by
    rw [List.map_cons, List.map_cons, List.sum_cons, sum_ones r, len_S, List.length_cons, List.length_cons]
    simp
    omega
theorem cutS_len (z : Str) (lo hi : Option Int) : (cutS z lo hi).length ≤ z.length := by
  unfold cutS
  rw [len_S, List.length_take, List.length_drop]
  have := len_tl z
  unfold tl at this
  omega
/-! ### rules with the written part by its name, for a comprehension's block -/
section
variable {X : Cx} {K : PySem.W.Frag}
theorem ix_listK (h : X.K = K) : IxR X (rIxL K) := h ▸ ix_list
theorem ix_tupK (h : X.K = K) : IxR X (rIxT K) := h ▸ ix_tup
theorem ix_seqK (h : X.K = K) : IxR X (rIx K) := h ▸ ix_seq
theorem op_in_seqK (h : X.K = K) : OpR X (compareOp .In) (rIn K false) := h ▸ op_in_seq
theorem op_notIn_seqK (h : X.K = K) : OpR X (compareOp .NotIn) (rIn K true) := h ▸ op_notIn_seq
theorem op_eqDK (h : X.K = K) (hu : X.A.units + 64 < cLine) : OpR X (compareOp .Eq) (rEqD K) := h ▸ op_eqD hu
theorem op_neDK (h : X.K = K) (hu : X.A.units + 64 < cLine) : OpR X (compareOp .NotEq) (rNeD K) := h ▸ op_neD hu
theorem sl_listK (h : X.K = K) : SlR X (rSlL K) := h ▸ sl_list
theorem call_len_seqK (h : X.K = K) : CallR X (.builtin "len") (fun xs H Q => ∃ p ys, xs = [.ref p] ∧ (SqL K H p ys ∨ SqT K H p ys) ∧ Q (.int ys.length) H) := by
  subst h
  exact call_len_seq
end
end OG

set_option Elab.async false
set_option linter.all false
set_option maxRecDepth 100000
set_option maxHeartbeats 4000000
namespace OG
open PySem PySem.Spec PyProof.Rows L2
/-! ### text * number -/
def rRepS : R2 := fun x y H Q => ∃ (z : Str) (k : Int), x = .str z ∧ y = .int k ∧ -(2 ^ 62) ≤ k ∧ k < 2 ^ 62 ∧ z.length * k.toNat ≤ 100000 ∧ Q (.str (S (List.replicate k.toNat (tl z)).flatten)) H
theorem fold_rep (a : Array Nat) : ∀ (k : Nat) (acc : Array Nat), (List.foldl (fun x y => x ++ y) acc (List.replicate k a)) = acc ++ (List.replicate k a.toList).flatten.toArray
  | 0, acc => by simp
  | k + 1, acc => by
    rw [List.replicate_succ, List.foldl_cons, fold_rep a k (acc ++ a), List.replicate_succ, List.flatten_cons, Array.append_assoc]
    congr 1
    apply Array.ext'
    simp
theorem op_repS {X : Cx} : OpR X (binaryOp .Mult) rRepS := by
  intro pins s σ H x y v u Q I rx ry h
  obtain ⟨z, k, rfl, rfl, h1, h2, hz, q⟩ := h
  obtain ⟨t, rfl⟩ := rx
  obtain ⟨t', rfl⟩ := ry
  refine PySem.P.mul_str ?_ (fun a b => ?_) (fun a b => ?_) ?_
  · rw [decide_eq_false (by omega), decide_eq_false (by omega)]; rfl
  · have hk : 0 < k := by omega
    have e : ((z.length * k.toNat : Nat) : Int) ≤ 100000 := Int.ofNat_le.mpr hz
    have e2 : ((z.length * k.toNat : Nat) : Int) = (z.length : Int) * k := by
      rw [Int.natCast_mul, Int.toNat_of_nonneg (by omega)]
    intro hc
    have h3 : (z.length : Int) ≤ (2 ^ 63 - 1) / k := by
      rw [Int.le_ediv_iff_mul_le hk]
      rw [← e2]
      omega
    omega
  · unfold PySem.Builtin.Str.tooLong
    exact decide_eq_false (Nat.not_lt.mpr (sz hz))
  · by_cases c1 : k < 1
    · rw [if_pos c1]
      have e : k.toNat = 0 := by omega
      rw [e] at q
      exact ⟨by decide, .str Str.empty, H, I.tok _, ⟨_, rfl⟩, q⟩
    · rw [if_neg c1]
      by_cases c2 : (k == 1 || z.length == 0) = true
      · rw [if_pos c2]
        have e : S (List.replicate k.toNat (tl z)).flatten = z := by
          rcases Bool.or_eq_true_iff.mp c2 with c3 | c3
          · have e1 : k = 1 := by simpa using c3
            rw [e1]
            show S ((tl z) ++ []) = z
            rw [List.append_nil, S_tl]
          · have e1 : z.length = 0 := by simpa using c3
            have e2 : tl z = [] := List.eq_nil_of_length_eq_zero (by rw [← len_tl]; exact e1)
            have e3 : ∀ n : Nat, (List.replicate n ([] : List Nat)).flatten = [] := fun n => by
              induction n with
              | zero => rfl
              | succ n ih => rw [List.replicate_succ, List.flatten_cons, ih]; rfl
            rw [e2, e3, ← e2, S_tl]
        rw [e] at q
        exact ⟨.str z, H, I, ⟨_, rfl⟩, q⟩
      · rw [if_neg c2]
        have e : (⟨(List.replicate k.toNat z.cps).foldl (· ++ ·) #[]⟩ : Str) = S (List.replicate k.toNat (tl z)).flatten := by
          have := fold_rep z.cps k.toNat #[]
          rw [this]
          simp [S, tl]
        rw [e]
        refine ⟨?_, .str _, H, I.tok _, ⟨_, rfl⟩, q⟩
        have : (S (List.replicate k.toNat (tl z)).flatten).length ≤ 100000 := by
          rw [len_S, List.length_flatten]
          rw [List.map_replicate, List.sum_replicate_nat, Nat.mul_comm]
          rw [← len_tl]
          exact hz
        first
          | exact sz this
          | (unfold PySem.Builtin.Str.tooLong; exact decide_eq_false (Nat.not_lt.mpr (sz this)))
          | (show _ = _; unfold PySem.Builtin.Str.tooLong; exact decide_eq_false (Nat.not_lt.mpr (sz this)))
end OG

set_option Elab.async false
set_option linter.all false
set_option maxRecDepth 100000
set_option maxHeartbeats 4000000
namespace OG
open PySem PySem.Spec PyProof.Rows L2

/-! ### data of tuples -/
inductive D where
  | non
  | bl (b : Bool)
  | int (n : Int)
  | str (z : Str)
  | tup (xs : List D)
mutual
/-- v stands for the datum -/
def Rp (H : Hp) : V → D → Prop
  | v, .non => v = .non
  | v, .bl b => v = .bl b
  | v, .int n => v = .int n
  | v, .str z => v = .str z
  | v, .tup xs => ∃ (a : Addr) (vs : List V), v = .ref a ∧ H a = some (.tup vs) ∧ RpL H vs xs
def RpL (H : Hp) : List V → List D → Prop
  | vs, [] => vs = []
  | vs, x :: xs => ∃ (v : V) (r : List V), vs = v :: r ∧ Rp H v x ∧ RpL H r xs
end
/-- tuples stay -/
def Imm (H H' : Hp) : Prop := ∀ b xs, H b = some (.tup xs) → H' b = some (.tup xs)
theorem Imm.refl (H : Hp) : Imm H H := fun _ _ h => h
theorem Imm.trans {H H1 H2 : Hp} (a : Imm H H1) (b : Imm H1 H2) : Imm H H2 := fun c xs h => b c xs (a c xs h)
theorem Imm.same {H H' : Hp} (a : Same H H') : Imm H H' := fun b xs h => a b _ h
theorem Imm.upd {H H' : Hp} {p : Addr} {o : HO} (a : Imm H H') (n : ∀ xs, H p ≠ some (.tup xs)) : Imm H (upd H' p o) := fun b xs h => by
  have e : b ≠ p := fun z => n xs (by rw [← z]; exact h)
  rw [upd_ne e]
  exact a b xs h
theorem Imm.but {H H' : Hp} {d : Addr} {l : List V} (a : But d H H') (h : H d = some (.lst l)) : Imm H H' := fun b xs e => by
  have n : b ≠ d := fun z => by
    rw [z, h] at e
    cases e
  rw [a b n]
  exact e
theorem Dr.imm {H H' : Hp} {d L : Addr} (h : Dr H d L) (a : But d H H') : Imm H H' := by
  obtain ⟨ns, i, r, s, hd, _⟩ := h
  exact Imm.but a hd
mutual
theorem Rp.imm {H H' : Hp} (m : Imm H H') : ∀ (x : D) (v : V), Rp H v x → Rp H' v x
  | .non, _, h => h
  | .bl _, _, h => h
  | .int _, _, h => h
  | .str _, _, h => h
  | .tup xs, _, h => by
    obtain ⟨a, vs, e, q, r⟩ := h
    exact ⟨a, vs, e, m _ _ q, RpL.imm m xs vs r⟩
theorem RpL.imm {H H' : Hp} (m : Imm H H') : ∀ (xs : List D) (vs : List V), RpL H vs xs → RpL H' vs xs
  | [], _, h => h
  | x :: xs, _, h => by
    obtain ⟨v, r, e, q, t⟩ := h
    exact ⟨v, r, e, Rp.imm m x v q, RpL.imm m xs r t⟩
end
theorem Rp.to {H H' : Hp} {x : D} {v : V} (h : Rp H v x) (m : Imm H H') : Rp H' v x := Rp.imm m x v h
theorem RpL.to {H H' : Hp} {xs : List D} {vs : List V} (h : RpL H vs xs) (m : Imm H H') : RpL H' vs xs := RpL.imm m xs vs h
theorem RpL.length {H : Hp} : ∀ {xs : List D} {vs : List V}, RpL H vs xs → vs.length = xs.length
  | [], _, h => by rw [show _ = [] from h]; rfl
  | x :: xs, _, h => by
    obtain ⟨v, r, e, _, t⟩ := h
    rw [e, List.length_cons, List.length_cons, RpL.length t]
theorem RpL.get {H : Hp} : ∀ {xs : List D} {vs : List V} {i : Nat} {v : V}, RpL H vs xs → vs[i]? = some v → ∃ x, xs[i]? = some x ∧ Rp H v x
  | [], _, i, v, h, g => by
    rw [show _ = [] from h] at g
    simp at g
  | x :: xs, _, 0, v, h, g => by
    obtain ⟨u, r, e, q, t⟩ := h
    rw [e] at g
    have : u = v := Option.some.inj g
    exact ⟨x, rfl, this ▸ q⟩
  | x :: xs, _, i + 1, v, h, g => by
    obtain ⟨u, r, e, q, t⟩ := h
    rw [e] at g
    exact RpL.get (xs := xs) (i := i) t g
theorem RpL.append {H : Hp} : ∀ {xs ys : List D} {vs ws : List V}, RpL H vs xs → RpL H ws ys → RpL H (vs ++ ws) (xs ++ ys)
  | [], _, _, _, h, k => by rw [show _ = [] from h]; exact k
  | x :: xs, ys, _, ws, h, k => by
    obtain ⟨u, r, e, q, t⟩ := h
    rw [e]
    exact ⟨u, r ++ ws, rfl, q, RpL.append t k⟩
theorem RpL.take {H : Hp} : ∀ {xs : List D} {vs : List V} (n : Nat), RpL H vs xs → RpL H (vs.take n) (xs.take n)
  | _, _, 0, _ => rfl
  | [], _, n + 1, h => by rw [show _ = [] from h]; rfl
  | x :: xs, _, n + 1, h => by
    obtain ⟨u, r, e, q, t⟩ := h
    rw [e]
    exact ⟨u, r.take n, rfl, q, RpL.take n t⟩
theorem RpL.drop {H : Hp} : ∀ {xs : List D} {vs : List V} (n : Nat), RpL H vs xs → RpL H (vs.drop n) (xs.drop n)
  | _, _, 0, h => h
  | [], _, n + 1, h => by rw [show _ = [] from h]; rfl
  | x :: xs, _, n + 1, h => by
    obtain ⟨u, r, e, q, t⟩ := h
    rw [e]
    exact RpL.drop n t
theorem rpl_nil {H : Hp} : RpL H [] [] := rfl
theorem rpl_cons {H : Hp} {v : V} {vs : List V} {x : D} {xs : List D} (h : Rp H v x) (t : RpL H vs xs) : RpL H (v :: vs) (x :: xs) := ⟨v, vs, rfl, h, t⟩
theorem rp_tup {H : Hp} {a : Addr} {vs : List V} {xs : List D} (h : H a = some (.tup vs)) (t : RpL H vs xs) : Rp H (.ref a) (.tup xs) := ⟨a, vs, rfl, h, t⟩
theorem rp_t2 {H : Hp} {v : V} {x y : D} (h : Rp H v (.tup [x, y])) : ∃ a v1 v2, v = .ref a ∧ H a = some (.tup [v1, v2]) ∧ Rp H v1 x ∧ Rp H v2 y := by
  obtain ⟨a, vs, e, q, v1, r1, rfl, h1, v2, r2, rfl, h2, rfl⟩ := h
  exact ⟨a, v1, v2, e, q, h1, h2⟩
theorem rp_t3 {H : Hp} {v : V} {x y z : D} (h : Rp H v (.tup [x, y, z])) : ∃ a v1 v2 v3, v = .ref a ∧ H a = some (.tup [v1, v2, v3]) ∧ Rp H v1 x ∧ Rp H v2 y ∧ Rp H v3 z := by
  obtain ⟨a, vs, e, q, v1, r1, rfl, h1, v2, r2, rfl, h2, v3, r3, rfl, h3, rfl⟩ := h
  exact ⟨a, v1, v2, v3, e, q, h1, h2, h3⟩
theorem rp_t5 {H : Hp} {v : V} {x y z u w : D} (h : Rp H v (.tup [x, y, z, u, w])) : ∃ a v1 v2 v3 v4 v5, v = .ref a ∧ H a = some (.tup [v1, v2, v3, v4, v5]) ∧ Rp H v1 x ∧ Rp H v2 y ∧ Rp H v3 z ∧ Rp H v4 u ∧ Rp H v5 w := by
  obtain ⟨a, vs, e, q, v1, r1, rfl, h1, v2, r2, rfl, h2, v3, r3, rfl, h3, v4, r4, rfl, h4, v5, r5, rfl, h5, rfl⟩ := h
  exact ⟨a, v1, v2, v3, v4, v5, e, q, h1, h2, h3, h4, h5⟩

/-! ### names -/
def kept : List Str := ["step", "for", "from", "to", "if", "else", "double", "call", "with", "again", "on", "halves", "thirds", "less", "n"]
theorem kept_split : (Txt.split "step for from to if else double call with again on halves thirds less n" " ") = kept := by decide +kernel
def spKept : Sp := fun vs H Q _ => vs = [] ∧ ∀ (p : Addr) (H' : Hp), H p = none → H' = upd H p (.lst (kept.map V.str)) → Q (.ref p) H'
def abc : List Nat := tl "abcdefghijklmnopqrstuvwxyz"
/-- whether a text is a name -/
def nameB (z : Str) : Bool := (!inV (.str z) (kept.map V.str) && (decide ((1 : Int) ≤ (z.length : Int)) && decide ((z.length : Int) ≤ 8))) && ((tl z).map (fun c => decide (c ∈ tl "abcdefghijklmnopqrstuvwxyz"))).all id
def spName : Sp := fun vs H Q _ => ∃ z : Str, vs = [.str z] ∧ z.length < 100000 ∧ ∀ H', Same H H' → Q (.bl (nameB z)) H'
theorem inV_str (z : Str) : ∀ ys : List Str, inV (.str z) (ys.map V.str) = decide (z ∈ ys)
  | [] => rfl
  | y :: r => by
    have ih := inV_str z r
    unfold inV at ih ⊢
    rw [List.map_cons, List.any_cons, ih]
    show ((y == z) || decide (z ∈ r)) = decide (z ∈ y :: r)
    by_cases h : y = z
    · subst h
      simp
    · have h2 : (y == z) = false := by simpa using h
      have h3 : ¬ z = y := fun e => h e.symm
      rw [h2, Bool.false_or]
      by_cases h4 : z ∈ r
      · rw [decide_eq_true h4, decide_eq_true (List.mem_cons_of_mem _ h4)]
      · rw [decide_eq_false h4, decide_eq_false (fun h5 => (List.mem_cons.mp h5).elim h3 h4)]
theorem name_of {cs : List Nat} (h0 : 1 ≤ cs.length) (h8 : cs.length ≤ 8) (hk : S cs ∉ kept) (hc : ∀ c ∈ cs, c ∈ abc) : nameB (S cs) = true := by
  unfold nameB
  rw [inV_str, decide_eq_false hk, len_S]
  rw [decide_eq_true (by omega), decide_eq_true (by omega)]
  have : ((tl (S cs)).map (fun c => decide (c ∈ tl "abcdefghijklmnopqrstuvwxyz"))).all id = true := by
    rw [List.all_eq_true]
    intro b hb
    obtain ⟨c, hc2, rfl⟩ := List.mem_map.mp hb
    exact decide_eq_true (hc c hc2)
  rw [this]
  rfl
theorem name_len {z : Str} (h : nameB z = true) : 1 ≤ z.length ∧ z.length ≤ 8 := by
  unfold nameB at h
  simp only [Bool.and_eq_true, decide_eq_true_eq] at h
  omega
theorem name_abc {z : Str} (h : nameB z = true) : ∀ c ∈ tl z, c ∈ abc := by
  unfold nameB at h
  have h2 := (Bool.and_eq_true_iff.mp h).2
  rw [List.all_eq_true] at h2
  intro c hc
  exact of_decide_eq_true (h2 _ (List.mem_map.mpr ⟨c, hc, rfl⟩))
theorem name_kept {z : Str} (h : nameB z = true) : z ∉ kept := by
  unfold nameB at h
  rw [inV_str] at h
  intro hk
  rw [decide_eq_true hk] at h
  cases h
theorem name_two : ∀ c ∈ abc, nameB (S [c, c]) = true := by
  have h : abc.all (fun c => nameB (S [c, c])) = true := by decide +kernel
  exact fun c hc => List.all_eq_true.mp h c hc

/-! ### plans -/
inductive Thing where
  | step (k : Int)
  | loop (x : Str) (a b : Str × Int) (body : List Thing)
  | test (a b : Str × Int) (x y : List Thing)
  | twice (body : List Thing)
  | call (x : Str) (e : Str × Int)
  | again (k : Int) (w : Str)
def encE (e : Str × Int) : D := .tup [.str e.1, .int e.2]
mutual
def enc : Thing → D
  | .step k => .tup [.str "step", .int k]
  | .loop x a b body => .tup [.str "for", .str x, encE a, encE b, .tup (encs body)]
  | .test a b x y => .tup [.str "if", encE a, encE b, .tup (encs x), .tup (encs y)]
  | .twice b => .tup [.str "double", .tup (encs b)]
  | .call x e => .tup [.str "call", .str x, encE e]
  | .again k w => .tup [.str "again", .int k, .str w]
def encs : List Thing → List D
  | [] => []
  | t :: r => enc t :: encs r
end
theorem encs_map : ∀ ts : List Thing, encs ts = ts.map enc
  | [] => rfl
  | t :: r => by
    show enc t :: encs r = enc t :: r.map enc
    rw [encs_map r]
theorem encs_append (a b : List Thing) : encs (a ++ b) = encs a ++ encs b := by rw [encs_map, encs_map, encs_map, List.map_append]
theorem encs_length (ts : List Thing) : (encs ts).length = ts.length := by rw [encs_map, List.length_map]
/-- an end that may stand where the names sc may -/
def EndOk (sc : List Str) (e : Str × Int) : Prop := (e.1 = "" ∧ 0 ≤ e.2 ∧ e.2 ≤ 99) ∨ (e.1 ∈ sc ∧ -99 ≤ e.2 ∧ e.2 ≤ 99)
def ScOk (sc : List Str) : Prop := ∀ x ∈ sc, x = "n" ∨ nameB x = true
def AgOk (k : Int) (w : Str) : Prop := 1 ≤ k ∧ k ≤ 9 ∧ (w = "halves" ∨ w = "thirds" ∨ w = "less")
mutual
/-- a thing with at most n brackets within one another, calling only what C tells; again only where A does -/
def TOk (C : Str → Prop) (A : Prop) : List Str → Nat → Thing → Prop
  | _, _, .step k => 0 ≤ k ∧ k ≤ 99
  | sc, n, .loop x a b body => nameB x = true ∧ x ∉ sc ∧ EndOk sc a ∧ EndOk sc b ∧ body ≠ [] ∧ ∃ m, n = m + 1 ∧ TsOk C A (sc ++ [x]) m body
  | sc, n, .test a b x y => EndOk sc a ∧ EndOk sc b ∧ x ≠ [] ∧ ∃ m, n = m + 1 ∧ TsOk C A sc m x ∧ TsOk C A sc m y
  | sc, n, .twice b => b ≠ [] ∧ ∃ m, n = m + 1 ∧ TsOk C A sc m b
  | sc, _, .call x e => nameB x = true ∧ C x ∧ EndOk sc e
  | _, _, .again k w => A ∧ AgOk k w
def TsOk (C : Str → Prop) (A : Prop) : List Str → Nat → List Thing → Prop
  | _, _, [] => True
  | sc, n, t :: r => TOk C A sc n t ∧ TsOk C A sc n r
end
theorem tsok_iff {C : Str → Prop} {A : Prop} {sc : List Str} {n : Nat} : ∀ ts : List Thing, TsOk C A sc n ts ↔ ∀ t ∈ ts, TOk C A sc n t
  | [] => ⟨fun _ _ h => (by cases h), fun _ => trivial⟩
  | t :: r => by
    show (TOk C A sc n t ∧ TsOk C A sc n r) ↔ _
    rw [tsok_iff r]
    constructor
    · rintro ⟨h1, h2⟩ u hu
      rcases List.mem_cons.mp hu with rfl | hu
      · exact h1
      · exact h2 u hu
    · intro h
      exact ⟨h t List.mem_cons_self, fun u hu => h u (List.mem_cons_of_mem _ hu)⟩
mutual
def cntT : Thing → Nat
  | .step _ => 1
  | .loop _ _ _ b => 1 + cntB b
  | .test _ _ x y => 1 + cntB x + cntB y
  | .twice b => 1 + cntB b
  | .call _ _ => 1
  | .again _ _ => 1
def cntB : List Thing → Nat
  | [] => 0
  | t :: r => cntT t + cntB r
end
theorem cntB_append : ∀ a b : List Thing, cntB (a ++ b) = cntB a + cntB b
  | [], b => by show cntB b = 0 + cntB b; omega
  | t :: r, b => by
    show cntT t + cntB (r ++ b) = cntT t + cntB r + cntB b
    rw [cntB_append r b]
    omega

/-! ### a plan's text -/
def numL (i : Int) : List Nat := tl (toString i)
def endL (e : Str × Int) : List Nat :=
  if e.1 = "" then numL e.2 else if e.2 = 0 then tl e.1 else if 0 < e.2 then tl e.1 ++ tl " + " ++ numL e.2 else tl e.1 ++ tl " - " ++ numL (-e.2)
mutual
def thingL : Thing → List Nat
  | .step k => tl "step " ++ numL k
  | .loop x a b body => tl "for " ++ tl x ++ tl " from " ++ endL a ++ tl " to " ++ endL b ++ tl " (" ++ TL.joinL (tl "; ") (thingsL body) ++ tl ")"
  | .test a b x y => tl "if " ++ endL a ++ tl " <= " ++ endL b ++ tl " (" ++ TL.joinL (tl "; ") (thingsL x) ++ tl ")" ++ (match y with
    | [] => []
    | t :: r => tl " else (" ++ TL.joinL (tl "; ") (thingsL (t :: r)) ++ tl ")")
  | .twice b => tl "double (" ++ TL.joinL (tl "; ") (thingsL b) ++ tl ")"
  | .call x e => tl "call " ++ tl x ++ tl " with " ++ endL e
  | .again k w => tl "again " ++ numL k ++ tl " on " ++ tl w
def thingsL : List Thing → List (List Nat)
  | [] => []
  | t :: r => thingL t :: thingsL r
end
def planL (ts : List Thing) : List Nat := TL.joinL (tl "; ") (thingsL ts)
theorem thingsL_map : ∀ ts : List Thing, thingsL ts = ts.map thingL
  | [] => rfl
  | t :: r => by
    show thingL t :: thingsL r = thingL t :: r.map thingL
    rw [thingsL_map r]
theorem str_ext {a b : Str} (h : tl a = tl b) : a = b := by rw [← S_tl a, ← S_tl b, h]
theorem tl_app (a b : Str) : tl (a ++ b) = tl a ++ tl b := TL.tl_append a b
theorem tl_empty : tl Str.empty = [] := rfl
/-! sizes -/
theorem num_small {i : Int} (h0 : -99 ≤ i) (h1 : i ≤ 99) : (numL i).length ≤ 3 ∧ i.natAbs.log2 < 1920 := by
  have e : ∀ n : Nat, n < 199 → (numL ((n : Int) - 99)).length ≤ 3 ∧ ((n : Int) - 99).natAbs.log2 < 1920 := by
    have h : (List.range 199).all (fun n => decide ((numL ((n : Int) - 99)).length ≤ 3) && decide (((n : Int) - 99).natAbs.log2 < 1920)) = true := by decide +kernel
    intro n hn
    have := List.all_eq_true.mp h n (List.mem_range.mpr hn)
    simpa only [Bool.and_eq_true, decide_eq_true_eq] using this
  have q := e (i + 99).toNat (by omega)
  have e2 : (((i + 99).toNat : Nat) : Int) - 99 = i := by omega
  rw [e2] at q
  exact q
theorem end_small {sc : List Str} {e : Str × Int} (hs : ScOk sc) (h : EndOk sc e) : (endL e).length ≤ 14 ∧ e.1.length ≤ 8 ∧ -99 ≤ e.2 ∧ e.2 ≤ 99 := by
  have hl : e.1.length ≤ 8 ∧ -99 ≤ e.2 ∧ e.2 ≤ 99 := by
    rcases h with ⟨h1, h2, h3⟩ | ⟨h1, h2, h3⟩
    · rw [h1]
      exact ⟨by decide +kernel, by omega, h3⟩
    · rcases hs _ h1 with h4 | h4
      · rw [h4]
        exact ⟨by decide +kernel, h2, h3⟩
      · exact ⟨(name_len h4).2, h2, h3⟩
  refine ⟨?_, hl⟩
  have n1 := (num_small hl.2.1 hl.2.2).1
  have n2 := (num_small (i := -e.2) (by omega) (by omega)).1
  have l1 := len_tl e.1
  have p1 : (tl " + ").length = 3 := by decide +kernel
  have p2 : (tl " - ").length = 3 := by decide +kernel
  unfold endL
  split
  · omega
  · split
    · omega
    · split
      · rw [List.length_append, List.length_append]
        omega
      · rw [List.length_append, List.length_append]
        omega
end OG

set_option Elab.async false
set_option linter.all false
set_option maxRecDepth 100000
set_option maxHeartbeats 4000000
namespace OG
open PySem PySem.Spec PyProof.Rows L2
/-! ### sizes of texts -/
theorem joinL_len (s : List Nat) : ∀ ls : List (List Nat), (TL.joinL s ls).length ≤ (ls.map (fun l => l.length + s.length)).sum
  | [] => Nat.le_refl _
  | [p] => by
    show p.length ≤ (p.length + s.length) + 0
    omega
  | p :: q :: r => by
    have ih := joinL_len s (q :: r)
    show (p ++ (s ++ TL.joinL s (q :: r))).length ≤ (p.length + s.length) + ((q :: r).map (fun l => l.length + s.length)).sum
    rw [List.length_append, List.length_append]
    omega
theorem scOk_snoc {sc : List Str} {x : Str} (h : ScOk sc) (n : nameB x = true) : ScOk (sc ++ [x]) := fun y hy => by
  rcases List.mem_append.mp hy with h1 | h1
  · exact h y h1
  · rw [List.mem_singleton.mp h1]
    exact .inr n
mutual
theorem thing_size {C : Str → Prop} {A : Prop} : ∀ (t : Thing) (sc : List Str) (n : Nat), TOk C A sc n t → ScOk sc → (thingL t).length + 2 ≤ 80 * cntT t
  | .step k, sc, n, h, hs => by
    have e := (num_small (i := k) (by have := h.1; omega) h.2).1
    have c : (tl "step ").length = 5 := by decide +kernel
    show (tl "step " ++ numL k).length + 2 ≤ 80 * 1
    rw [List.length_append]
    omega
  | .loop x a b body, sc, n, h, hs => by
    obtain ⟨h1, h2, h3, h4, h5, m, rfl, h6⟩ := h
    have hn := name_len h1
    have e1 := (end_small hs h3).1
    have e2 := (end_small hs h4).1
    have ih := things_size body _ _ h6 (scOk_snoc hs h1)
    have j := joinL_len (tl "; ") (thingsL body)
    have c0 : (tl "; ").length = 2 := by decide +kernel
    have c1 : (tl "for ").length = 4 := by decide +kernel
    have c2 : (tl " from ").length = 6 := by decide +kernel
    have c3 : (tl " to ").length = 4 := by decide +kernel
    have c4 : (tl " (").length = 2 := by decide +kernel
    have c5 : (tl ")").length = 1 := by decide +kernel
    have l := len_tl x
    rw [c0] at j
    show (tl "for " ++ tl x ++ tl " from " ++ endL a ++ tl " to " ++ endL b ++ tl " (" ++ TL.joinL (tl "; ") (thingsL body) ++ tl ")").length + 2 ≤ 80 * (1 + cntB body)
    simp only [List.length_append]
    omega
  | .test a b x y, sc, n, h, hs => by
    obtain ⟨h3, h4, h5, m, rfl, h6, h7⟩ := h
    have e1 := (end_small hs h3).1
    have e2 := (end_small hs h4).1
    have ih := things_size x _ _ h6 hs
    have j := joinL_len (tl "; ") (thingsL x)
    have ih2 := things_size y _ _ h7 hs
    have j2 := joinL_len (tl "; ") (thingsL y)
    have c0 : (tl "; ").length = 2 := by decide +kernel
    have c1 : (tl "if ").length = 3 := by decide +kernel
    have c2 : (tl " <= ").length = 4 := by decide +kernel
    have c4 : (tl " (").length = 2 := by decide +kernel
    have c5 : (tl ")").length = 1 := by decide +kernel
    have c6 : (tl " else (").length = 7 := by decide +kernel
    rw [c0] at j j2
    cases y with
    | nil =>
      show (tl "if " ++ endL a ++ tl " <= " ++ endL b ++ tl " (" ++ TL.joinL (tl "; ") (thingsL x) ++ tl ")" ++ []).length + 2 ≤ 80 * (1 + cntB x + 0)
      simp only [List.length_append, List.length_nil]
      omega
    | cons t r =>
      show (tl "if " ++ endL a ++ tl " <= " ++ endL b ++ tl " (" ++ TL.joinL (tl "; ") (thingsL x) ++ tl ")" ++ (tl " else (" ++ TL.joinL (tl "; ") (thingsL (t :: r)) ++ tl ")")).length + 2 ≤ 80 * (1 + cntB x + cntB (t :: r))
      simp only [List.length_append]
      omega
  | .twice b, sc, n, h, hs => by
    obtain ⟨h5, m, rfl, h6⟩ := h
    have ih := things_size b _ _ h6 hs
    have j := joinL_len (tl "; ") (thingsL b)
    have c0 : (tl "; ").length = 2 := by decide +kernel
    have c1 : (tl "double (").length = 8 := by decide +kernel
    have c5 : (tl ")").length = 1 := by decide +kernel
    rw [c0] at j
    show (tl "double (" ++ TL.joinL (tl "; ") (thingsL b) ++ tl ")").length + 2 ≤ 80 * (1 + cntB b)
    simp only [List.length_append]
    omega
  | .call x e, sc, n, h, hs => by
    have e1 := (end_small hs h.2.2).1
    have hn := name_len h.1
    have c1 : (tl "call ").length = 5 := by decide +kernel
    have c2 : (tl " with ").length = 6 := by decide +kernel
    have l := len_tl x
    show (tl "call " ++ tl x ++ tl " with " ++ endL e).length + 2 ≤ 80 * 1
    simp only [List.length_append]
    omega
  | .again k w, sc, n, h, hs => by
    obtain ⟨_, h1, h2, h3⟩ := h
    have e := (num_small (i := k) (by omega) (by omega)).1
    have c1 : (tl "again ").length = 6 := by decide +kernel
    have c2 : (tl " on ").length = 4 := by decide +kernel
    have c3 : (tl w).length ≤ 6 := by
      rcases h3 with rfl | rfl | rfl
      · decide +kernel
      · decide +kernel
      · decide +kernel
    show (tl "again " ++ numL k ++ tl " on " ++ tl w).length + 2 ≤ 80 * 1
    simp only [List.length_append]
    omega
theorem things_size {C : Str → Prop} {A : Prop} : ∀ (ts : List Thing) (sc : List Str) (n : Nat), TsOk C A sc n ts → ScOk sc → ((thingsL ts).map (fun l => l.length + 2)).sum ≤ 80 * cntB ts
  | [], _, _, _, _ => Nat.le_refl _
  | t :: r, sc, n, h, hs => by
    have h1 := thing_size t sc n h.1 hs
    have h2 := things_size r sc n h.2 hs
    show ((thingL t).length + 2) + ((thingsL r).map (fun l => l.length + 2)).sum ≤ 80 * (cntT t + cntB r)
    omega
end
theorem plan_size {C : Str → Prop} {A : Prop} {ts : List Thing} {sc : List Str} {n : Nat} (h : TsOk C A sc n ts) (hs : ScOk sc) : (planL ts).length ≤ 80 * cntB ts := by
  have j := joinL_len (tl "; ") (thingsL ts)
  have c0 : (tl "; ").length = 2 := by decide +kernel
  rw [c0] at j
  exact Nat.le_trans j (things_size ts sc n h hs)
theorem cnt_pos : ∀ t : Thing, 1 ≤ cntT t
  | .step _ => Nat.le_refl _
  | .loop _ _ _ b => Nat.le_add_right _ _
  | .test _ _ x y => by show 1 ≤ 1 + cntB x + cntB y; omega
  | .twice b => Nat.le_add_right _ _
  | .call _ _ => Nat.le_refl _
  | .again _ _ => Nat.le_refl _
theorem cnt_len : ∀ ts : List Thing, ts.length ≤ cntB ts
  | [] => Nat.le_refl _
  | t :: r => by
    have h1 := cnt_pos t
    have h2 := cnt_len r
    show r.length + 1 ≤ cntT t + cntB r
    omega
theorem cnt_mem {t : Thing} : ∀ {ts : List Thing}, t ∈ ts → cntT t ≤ cntB ts
  | [], h => by cases h
  | u :: r, h => by
    show cntT t ≤ cntT u + cntB r
    rcases List.mem_cons.mp h with rfl | h
    · omega
    · have := cnt_mem h
      omega
/-! ### a comprehension over a tuple, its element a call that leaves all as it was -/
theorem lc_tup_map {K : PySem.W.Frag} {a : Addr} {xs : List V} {g : TG} {te : TE} {vs : List Nat} {σ : L2.St} {H1 : Hp} {D : Addr} {Qd : Hp → Prop} (ys : List V) (i0 : Nat) (hg : g = gName i0) (hw : ∀ v, wipe ((wipe σ vs).set i0 v) vs = wipe σ vs)
    (hlen : ys.length = xs.length) (hz : xs.length < 100000) (hS : H1 a = some (.tup xs)) (hD : H1 D = none)
    (he : ∀ (i : Nat) (x y : V) (H2 : Hp) (Q : VK), xs[i]? = some x → ys[i]? = some y → Same H1 H2 → (∀ H3, Same H2 H3 → Q y H3) → te ((wipe σ vs).set i0 (some x)) H2 Q)
    (hd : ∀ H', Same H1 H' → H' D = some (.lst ys) → Qd H') :
    ∃ W : Nat → Nat → Hp → Prop, (∃ m, W 0 m (upd H1 D (.lst []))) ∧ ∀ i m H, W i m H →
      ((Itt K a).stop i H ∧ Qd H) ∨ ((Itt K a).go i H ∧ ∃ Nx : Hp → Prop, (∀ H', Nx H' → ∃ m', m' < m ∧ W (i + 1) m' H') ∧ ∀ x H', (Itt K a).yld i H x H' → g x (wipe σ vs) H' fun σ2 H2 => wipe σ2 vs = wipe σ vs ∧ tYes σ2 H2 fun b H3 =>
        if b = true then te σ2 H3 fun y H4 => ∃ acc, H4 D = some (.lst acc) ∧ acc.length < sizeLine ∧ Nx (upd H4 D (.lst (acc ++ [y]))) else Nx H3) := by
  subst hg
  refine lc_tup (xs := xs) (fun i H' => Same H1 H' ∧ H' D = some (.lst (ys.take i))) ⟨same_new hD, upd_same⟩ (fun i H' hi hP => SqT.of (hP.1 _ _ hS)) (fun i x H' hx hP => ?_) (fun H' hP => ?_)
  · obtain ⟨sm, hl⟩ := hP
    have hi : i < ys.length := by
      rw [hlen]
      obtain ⟨h, _⟩ := List.getElem?_eq_some_iff.mp hx
      exact h
    refine ⟨hw _, yes_go ?_⟩
    refine he i x ys[i] H' _ hx (List.getElem?_eq_getElem hi) sm fun H3 s3 => ?_
    refine ⟨ys.take i, s3 _ _ hl, ?_, Same.upd_new (sm.trans s3) hD, ?_⟩
    · rw [List.length_take]
      exact szl (by omega)
    · rw [upd_same, List.take_add_one, List.getElem?_eq_getElem hi]
      rfl
  · obtain ⟨sm, hl⟩ := hP
    rw [← hlen, List.take_length] at hl
    exact hd H' sm hl
/-! ### what the writers promise -/
def spEndText : Sp := fun vs H Q _ => ∃ (v : V) (e : Str × Int), vs = [v] ∧ Rp H v (encE e) ∧ e.1.length ≤ 100 ∧ -99 ≤ e.2 ∧ e.2 ≤ 99 ∧ ∀ H', Same H H' → Q (.str (S (endL e))) H'
def spThingText (n : Nat) : Sp := fun vs H Q _ => ∃ (v : V) (t : Thing) (C : Str → Prop) (A : Prop) (sc : List Str), vs = [v] ∧ Rp H v (enc t) ∧ TOk C A sc n t ∧ ScOk sc ∧ cntT t ≤ 1000 ∧ ∀ H', Same H H' → Q (.str (S (thingL t))) H'
def spPlanText (n : Nat) : Sp := fun vs H Q _ => ∃ (v : V) (ts : List Thing) (C : Str → Prop) (A : Prop) (sc : List Str), vs = [v] ∧ Rp H v (.tup (encs ts)) ∧ TsOk C A sc n ts ∧ ScOk sc ∧ cntB ts ≤ 1000 ∧ ∀ H', Same H H' → Q (.str (S (planL ts))) H'
/-- the same for the things of one kind -/
def spOne (kind : Thing → Prop) (n : Nat) : Sp := fun vs H Q _ => ∃ (v : V) (t : Thing) (C : Str → Prop) (A : Prop) (sc : List Str), vs = [v] ∧ kind t ∧ Rp H v (enc t) ∧ TOk C A sc n t ∧ ScOk sc ∧ cntT t ≤ 1000 ∧ ∀ H', Same H H' → Q (.str (S (thingL t))) H'
theorem endL_len {e : Str × Int} (h : e.1.length ≤ 100) (h1 : -99 ≤ e.2) (h2 : e.2 ≤ 99) : (endL e).length ≤ 110 := by
  have n1 := (num_small h1 h2).1
  have n2 := (num_small (i := -e.2) (by omega) (by omega)).1
  have l1 := len_tl e.1
  have p1 : (tl " + ").length = 3 := by decide +kernel
  have p2 : (tl " - ").length = 3 := by decide +kernel
  unfold endL
  split
  · omega
  · split
    · omega
    · split
      · rw [List.length_append, List.length_append]
        omega
      · rw [List.length_append, List.length_append]
        omega
/-! ### how a heap goes on: what M tells may be written, tuples stay -/
structure Go (M : Addr → Prop) (H H' : Hp) : Prop where
  sx : Sx M H H'
  im : Imm H H'
theorem Go.refl (M : Addr → Prop) (H : Hp) : Go M H H := ⟨Sx.refl M H, Imm.refl H⟩
theorem Go.trans {M : Addr → Prop} {H H1 H2 : Hp} (a : Go M H H1) (b : Go M H1 H2) : Go M H H2 := ⟨a.sx.trans b.sx, a.im.trans b.im⟩
theorem Go.same {M : Addr → Prop} {H H' : Hp} (a : Same H H') : Go M H H' := ⟨Sx.of_same a, Imm.same a⟩
theorem Go.new {M : Addr → Prop} {H H' : Hp} {p : Addr} {o : HO} (a : Go M H H') (h : H' p = none) : Go M H (upd H' p o) := a.trans (Go.same (same_new h))
theorem Go.mono {M N : Addr → Prop} {H H' : Hp} (a : Go M H H') (h : ∀ b, M b → N b) : Go N H H' := ⟨a.sx.mono h, a.im⟩
theorem Go.but {M : Addr → Prop} {H H' : Hp} {d L : Addr} (h : Dr H d L) (a : But d H H') (m : M d) : Go M H H' := ⟨Sx.of_but a m, h.imm a⟩
theorem Go.set {M : Addr → Prop} {H H' : Hp} {p : Addr} {o : HO} {l : List V} (a : Go M H H') (m : M p) (h : H' p = some (.lst l)) : Go M H (upd H' p o) :=
  ⟨a.sx.upd_in m, a.im.trans ((Imm.refl H').upd fun xs e => by rw [h] at e; cases e)⟩
theorem Go.own {M : Addr → Prop} {H H' : Hp} {p : Addr} {o : HO} (a : Go M H H') (h : H p = none) : Go M H (upd H' p o) :=
  ⟨a.sx.upd_new h, a.im.upd fun xs e => by rw [h] at e; cases e⟩
theorem Go.at {M : Addr → Prop} {H H' : Hp} {p : Addr} {o : HO} (a : Go M H H') (h : H p = some o) (n : ¬ M p) : H' p = some o := a.sx p o n h
/-- what is not tracked behind was not tracked ahead, where M's own are tracked behind -/
theorem Go.free {M : Addr → Prop} {H H' : Hp} {p : Addr} (a : Go M H H') (h : H' p = none) (n : ¬ M p) : H p = none := by
  cases q : H p with
  | none => rfl
  | some o =>
    rw [a.sx p o n q] at h
    cases h
theorem mem_ints2 {v : V} {a b : Int} (h : v ∈ [V.int a, .int b]) : ∃ m, v = .int m ∧ (m = a ∨ m = b) := by
  rcases List.mem_cons.mp h with rfl | h
  · exact ⟨a, rfl, .inl rfl⟩
  rcases List.mem_cons.mp h with rfl | h
  · exact ⟨b, rfl, .inr rfl⟩
  · cases h
theorem mem_ints3 {v : V} {a b c : Int} (h : v ∈ [V.int a, .int b, .int c]) : ∃ m, v = .int m ∧ (m = a ∨ m = b ∨ m = c) := by
  rcases List.mem_cons.mp h with rfl | h
  · exact ⟨a, rfl, .inl rfl⟩
  obtain ⟨m, e, q⟩ := mem_ints2 h
  exact ⟨m, e, .inr q⟩
theorem mem_ints {v : V} {ns : List Int} (h : v ∈ ns.map V.int) : ∃ m, v = .int m ∧ m ∈ ns := by
  obtain ⟨m, hm, e⟩ := List.mem_map.mp h
  exact ⟨m, e.symm, hm⟩
theorem mem_strs {v : V} {ns : List Str} (h : v ∈ ns.map V.str) : ∃ m, v = .str m ∧ m ∈ ns := by
  obtain ⟨m, hm, e⟩ := List.mem_map.mp h
  exact ⟨m, e.symm, hm⟩
/-! ### what the drawing promises -/
/-- the kit: room, the names that may be called (none), figures, wide -/
def Kt (H : Hp) (k kd : Addr) (r : Int) (fig wide : Bool) : Prop := H k = some (.lst [.int r, .ref kd, .bl fig, .bl wide]) ∧ H kd = some (.dK [])
def M2 (d k : Addr) : Addr → Prop := fun b => b = d ∨ b = k
/-- _law_some_end(draw, scope, wide) -/
def spSomeEnd : Sp := fun vs H Q _ => ∃ (d L sc : Addr) (ns : List Str) (wide : Bool), vs = [.ref d, .ref sc, .bl wide] ∧ Dr H d L ∧ H sc = some (.lst (ns.map V.str)) ∧ sc ≠ d ∧ ns ≠ [] ∧ ns.length < 100 ∧
  ∀ (v : V) (e : Str × Int) (H' : Hp), Rp H' v (encE e) → EndOk ns e → Dr H' d L → Go (· = d) H H' → Q v H'
/-- _law_fresh(draw, taken) -/
def spFresh : Sp := fun vs H Q _ => ∃ (d L sc : Addr) (ns : List Str), vs = [.ref d, .ref sc] ∧ Dr H d L ∧ H sc = some (.lst (ns.map V.str)) ∧ sc ≠ d ∧ ns.length < 26 ∧
  ∀ (x : Str) (H' : Hp), nameB x = true → x ∉ ns → Dr H' d L → Go (· = d) H H' → Q (.str x) H'
/-- no name may be called -/
abbrev C0 : Str → Prop := fun _ => False
/-- _law_leaf(draw, kit, scope, deep) -/
def spLeaf : Sp := fun vs H Q _ => ∃ (d L k kd sc : Addr) (dp r : Int) (fig wide : Bool), vs = [.ref d, .ref k, .ref sc, .int dp] ∧ Dr H d L ∧ Kt H k kd r fig wide ∧ k ≠ d ∧
  ∀ (v : V) (t : Thing) (H' : Hp), Rp H' v (enc t) → (∀ ns n, TOk C0 False ns n t) → cntT t = 1 → Dr H' d L → Go (· = d) H H' → Q v H'
/-- what a drawing of things is handed -/
def spDraw (post : Nat → List Str → V → Hp → Nat → Prop) (n : Nat) : Sp := fun vs H Q _ => ∃ (d L k kd sc : Addr) (r : Nat) (fig wide : Bool) (ns : List Str), vs = [.ref d, .ref k, .ref sc, .int (4 - n)] ∧ Dr H d L ∧ Kt H k kd r fig wide ∧ k ≠ d ∧ k ≠ L ∧ 1 ≤ r ∧ r ≤ 100 ∧
  H sc = some (.lst (ns.map V.str)) ∧ sc ≠ d ∧ sc ≠ k ∧ ScOk ns ∧ ns ≠ [] ∧ ns.length + n ≤ 20 ∧
  ∀ (v : V) (c r' : Nat) (H' : Hp), post n ns v H' c → c + r' = r → Dr H' d L → Kt H' k kd r' fig wide → Go (M2 d k) H H' → Q v H'
def spDrawThing : Nat → Sp := spDraw fun n ns v H' c => ∃ t, Rp H' v (enc t) ∧ TOk C0 False ns n t ∧ cntT t = c
def spDrawBody : Nat → Sp := spDraw fun n ns v H' c => ∃ ts, ts ≠ [] ∧ Rp H' v (.tup (encs ts)) ∧ TsOk C0 False ns n ts ∧ cntB ts = c
/-- _law_drawn(draw, room, figures, wide) -/
def spDrawn : Sp := fun vs H Q _ => ∃ (d L : Addr) (r : Nat) (fig wide : Bool), vs = [.ref d, .int r, .bl fig, .bl wide] ∧ Dr H d L ∧ 1 ≤ r ∧ r ≤ 100 ∧
  ∀ (v : V) (ts : List Thing) (H' : Hp), ts ≠ [] → Rp H' v (.tup (encs ts)) → TsOk C0 False ["n"] 4 ts → cntB ts ≤ r → Dr H' d L → Go (· = d) H H' → Q v H'
/-- of fewer than 26 names one of the doubled letters is none -/
theorem nodup_sub : ∀ {xs ys : List Str}, xs.Nodup → (∀ x ∈ xs, x ∈ ys) → xs.length ≤ ys.length
  | [], _, _, _ => Nat.zero_le _
  | x :: r, ys, h, s => by
    obtain ⟨h1, h2⟩ := List.nodup_cons.mp h
    have hx := s x List.mem_cons_self
    have ih := nodup_sub (xs := r) (ys := ys.erase x) h2 (fun y hy => by
      have hne : y ≠ x := fun e => h1 (e ▸ hy)
      exact (List.mem_erase_of_ne hne).mpr (s y (List.mem_cons_of_mem _ hy)))
    rw [List.length_erase_of_mem hx] at ih
    have : 0 < ys.length := List.length_pos_of_mem hx
    rw [List.length_cons]
    omega
def spare : List Str := abc.map fun c => S [c, c]
theorem spare_nodup : spare.Nodup := by decide +kernel
theorem spare_free {ns : List Str} (h : ns.length < 26) : ∃ x ∈ spare, x ∉ ns := by
  by_cases c : ∃ x ∈ spare, x ∉ ns
  · exact c
  · have : spare.length ≤ ns.length := nodup_sub spare_nodup (fun x hx => by
      by_cases hn : x ∈ ns
      · exact hn
      · exact absurd ⟨x, hx, hn⟩ c)
    have e : spare.length = 26 := by decide +kernel
    omega
theorem spare_name {x : Str} (h : x ∈ spare) : nameB x = true := by
  obtain ⟨c, hc, rfl⟩ := List.mem_map.mp h
  exact name_two c hc
end OG

set_option Elab.async false
set_option linter.all false
set_option maxRecDepth 100000
set_option maxHeartbeats 4000000
namespace OG
open PySem PySem.Spec PyProof.Rows L2
/-! ### two values that stand for one datum -/
def Eq2 (H : Hp) : Nat → V → V → Prop
  | 0, v, w => v = w ∧ flatV v = true
  | n + 1, v, w => (v = w ∧ flatV v = true) ∨
    (∃ (a b : Addr) (vs ws : List V), v = .ref a ∧ w = .ref b ∧ ((H a = some (.tup vs) ∧ H b = some (.tup ws)) ∨ (H a = some (.lst vs) ∧ H b = some (.lst ws))) ∧ vs.length = ws.length ∧ vs.length < 100000 ∧
      ∀ (i : Nat) x y, vs[i]? = some x → ws[i]? = some y → Eq2 H n x y)
theorem Eq2.same {H H' : Hp} (s : Same H H') : ∀ {n : Nat} {v w : V}, Eq2 H n v w → Eq2 H' n v w
  | 0, _, _, h => h
  | n + 1, v, w, h => by
    rcases h with h | ⟨a, b, vs, ws, e1, e2, h, hl, hz, q⟩
    · exact .inl h
    · refine .inr ⟨a, b, vs, ws, e1, e2, ?_, hl, hz, fun i x y hx hy => Eq2.same s (q i x y hx hy)⟩
      rcases h with ⟨h1, h2⟩ | ⟨h1, h2⟩
      · exact .inl ⟨s _ _ h1, s _ _ h2⟩
      · exact .inr ⟨s _ _ h1, s _ _ h2⟩
theorem Eq2.flat {H : Hp} {v : V} (h : flatV v = true) : ∀ n, Eq2 H n v v
  | 0 => ⟨rfl, h⟩
  | n + 1 => .inl ⟨rfl, h⟩
mutual
/-- how deep tuples stand in one another -/
def depD : D → Nat
  | .tup xs => 1 + depL xs
  | _ => 0
def depL : List D → Nat
  | [] => 0
  | x :: xs => max (depD x) (depL xs)
end
mutual
/-- no tuple is too long -/
def fitD : D → Prop
  | .tup xs => xs.length < 100000 ∧ fitL xs
  | _ => True
def fitL : List D → Prop
  | [] => True
  | x :: xs => fitD x ∧ fitL xs
end
theorem fit_get : ∀ {xs : List D} {i : Nat} {x : D}, fitL xs → xs[i]? = some x → fitD x
  | [], _, _, _, h => by simp at h
  | y :: ys, 0, x, f, h => by
    have : y = x := Option.some.inj h
    exact this ▸ f.1
  | y :: ys, i + 1, x, f, h => fit_get (xs := ys) (i := i) f.2 h
theorem dep_get : ∀ {xs : List D} {i : Nat} {x : D}, xs[i]? = some x → depD x ≤ depL xs
  | [], _, _, h => by simp at h
  | y :: ys, 0, x, h => by
    have : y = x := Option.some.inj h
    rw [← this]
    exact Nat.le_max_left _ _
  | y :: ys, i + 1, x, h => Nat.le_trans (dep_get (xs := ys) (i := i) h) (Nat.le_max_right _ _)
theorem eq2_of {H : Hp} : ∀ (n : Nat) (x : D) (v w : V), Rp H v x → Rp H w x → depD x ≤ n → fitD x → Eq2 H n v w
  | n, .non, _, _, h, k, _, _ => by rw [show _ = V.non from h, show _ = V.non from k]; exact Eq2.flat rfl n
  | n, .bl b, _, _, h, k, _, _ => by rw [show _ = V.bl b from h, show _ = V.bl b from k]; exact Eq2.flat rfl n
  | n, .int i, _, _, h, k, _, _ => by rw [show _ = V.int i from h, show _ = V.int i from k]; exact Eq2.flat rfl n
  | n, .str z, _, _, h, k, _, _ => by rw [show _ = V.str z from h, show _ = V.str z from k]; exact Eq2.flat rfl n
  | 0, .tup xs, _, _, _, _, hd, _ => by
    have : 1 + depL xs ≤ 0 := hd
    omega
  | n + 1, .tup xs, v, w, h, k, hd, hf => by
    obtain ⟨a, vs, e1, h1, r1⟩ := h
    obtain ⟨b, ws, e2, h2, r2⟩ := k
    have l1 := r1.length
    have l2 := r2.length
    have hd2 : depL xs ≤ n := by
      have : 1 + depL xs ≤ n + 1 := hd
      omega
    refine .inr ⟨a, b, vs, ws, e1, e2, .inl ⟨h1, h2⟩, l1.trans l2.symm, by rw [l1]; exact hf.1, fun i x y hx hy => ?_⟩
    obtain ⟨d1, g1, p1⟩ := r1.get hx
    obtain ⟨d2, g2, p2⟩ := r2.get hy
    have e : d1 = d2 := Option.some.inj (g1.symm.trans g2)
    subst e
    exact eq2_of n d1 x y p1 p2 (Nat.le_trans (dep_get g1) hd2) (fit_get hf.2 g1)
def spSame (n : Nat) : Sp := fun vs H Q _ => ∃ v w : V, vs = [v, w] ∧ Eq2 H n v w ∧ ∀ H', Same H H' → Q (.bl true) H'
def prevS : Nat → Sp
  | 0 => fun _ _ _ _ => False
  | n + 1 => spSame n
/-- zip of two tuples -/
theorem walk_zipT {K : PySem.W.Frag} {a b : Addr} {xs ys : List V} {n : Nat} (hn : n = min xs.length ys.length) : Walk (RZ.ItzT K a b) n (fun H => SqT K H a xs ∧ SqT K H b ys) (YPair (fun i => xs[i]?) (fun i => ys[i]?)) := by
  subst hn
  refine ⟨fun i _ hi q => ?_, fun _ q => ⟨xs, ys, q.1, q.2, by omega⟩, fun i H v H' _ q y => ?_⟩
  · have h1 : i < xs.length := by omega
    have h2 : i < ys.length := by omega
    exact ⟨xs, ys, xs[i], ys[i], q.1, q.2, by simp [h1], by simp [h2]⟩
  · obtain ⟨T, x, z, h1, h2, h3, h4, h5⟩ := y
    exact ⟨T, x, z, h1, h2, h3, h4 xs q.1, h5 ys q.2⟩
theorem fn_none {P : Program} {w : World} {K : PySem.W.Frag} {mg : Str → Option Value} {base : Heap} {f : Addr} {fd : FuncData} {k : Nat} {ps : List Str} : FnOk P w K mg base CX0 k f fd ps (fun _ _ _ _ => False) :=
  ⟨fun _ _ _ _ h => h.elim, fun _ _ _ _ _ _ _ _ _ _ _ _ _ h => h.elim⟩
theorem all_trues : ∀ n : Nat, (List.replicate n true).all id = true
  | 0 => rfl
  | n + 1 => by rw [List.replicate_succ, List.all_cons, all_trues n]; rfl
theorem pg_tupK {X : Cx} {K : PySem.W.Frag} {es : List Expr} {k : Nat} {t : TGs} {n : Nat} {pos : Pos} (hK : X.K = K) (hc : X.calm = true) (h : PGs X es t) (hn : (assignEach es X.env).length = n := by rfl) (hst : (assignEach es X.env).findIdx? (·.1) = none := by rfl) : PG X (.Tuple es k pos) (gTup K n t) := by
  subst hK
  exact pg_tup hc h hn hst
end OG

set_option Elab.async false
set_option linter.all false
set_option maxRecDepth 100000
set_option maxHeartbeats 4000000
namespace OG
open PySem PySem.Spec PyProof.Rows L2
theorem str_to {Q : VK} {a b : Str} {H : Hp} (h : Q (.str b) H) (e : tl a = tl b) : Q (.str a) H := by rw [str_ext e]; exact h
theorem szs {a b : Str} (h : a.length + b.length ≤ 100000) : (a ++ b).length ≤ sizeLine := by rw [len_app]; exact sz h
theorem szc {a b : Str} (h : a.length + b.length ≤ 100000) : a.length + b.length ≤ sizeLine := sz h
theorem l_emp : Str.empty.length = 0 := rfl
theorem l_0 : ("" : Str).length = 0 := by decide +kernel
theorem l_plus : (" + " : Str).length = 3 := by decide +kernel
theorem l_minus : (" - " : Str).length = 3 := by decide +kernel
theorem l_step : ("step " : Str).length = 5 := by decide +kernel
theorem l_for : ("for " : Str).length = 4 := by decide +kernel
theorem l_from : (" from " : Str).length = 6 := by decide +kernel
theorem l_to : (" to " : Str).length = 4 := by decide +kernel
theorem l_open : (" (" : Str).length = 2 := by decide +kernel
theorem l_shut : (")" : Str).length = 1 := by decide +kernel
theorem l_if : ("if " : Str).length = 3 := by decide +kernel
theorem l_le : (" <= " : Str).length = 4 := by decide +kernel
theorem l_else : (" else (" : Str).length = 7 := by decide +kernel
theorem l_double : ("double (" : Str).length = 8 := by decide +kernel
theorem l_call : ("call " : Str).length = 5 := by decide +kernel
theorem l_with : (" with " : Str).length = 6 := by decide +kernel
theorem l_again : ("again " : Str).length = 6 := by decide +kernel
theorem l_on : (" on " : Str).length = 4 := by decide +kernel
theorem numL_len {i : Int} (h0 : -99 ≤ i) (h1 : i ≤ 99) : ((toString i : Str)).length ≤ 3 := by
  have := (num_small h0 h1).1
  unfold numL at this
  rw [← len_tl] at this
  exact this
theorem int_log {i : Int} (h0 : -99 ≤ i) (h1 : i ≤ 99) : i.natAbs.log2 < 1920 := (num_small h0 h1).2
theorem strs_len (ls : List (List Nat)) : ((ls.map S).map (·.length)).sum = (ls.map (·.length)).sum := by
  rw [List.map_map]
  congr 1
theorem sum_le_two : ∀ ls : List (List Nat), (ls.map (·.length)).sum + ls.length * 2 = (ls.map (fun l => l.length + 2)).sum
  | [] => rfl
  | l :: r => by
    have ih := sum_le_two r
    rw [List.map_cons, List.map_cons, List.sum_cons, List.sum_cons, List.length_cons]
    omega
/-- '; '.join of the things' texts -/
theorem join_things (ts : List Thing) : Txt.join "; " (ts.map fun t => S (thingL t)) = S (planL ts) := by
  have e := SX.join_S (tl "; ") (thingsL ts)
  have e1 : SX.S (tl "; ") = ("; " : Str) := S_tl _
  rw [e1] at e
  have e2 : (thingsL ts).map SX.S = ts.map fun t => S (thingL t) := by
    rw [thingsL_map, List.map_map]
    rfl
  rw [e2] at e
  exact e
theorem things_sum {C : Str → Prop} {A : Prop} {ts : List Thing} {sc : List Str} {n : Nat} (h : TsOk C A sc n ts) (hs : ScOk sc) (hc : cntB ts ≤ 1000) :
    (((ts.map fun t => S (thingL t))).map (·.length)).sum + (ts.map fun t => S (thingL t)).length * ("; " : Str).length ≤ 16777216 := by
  have c0 : ("; " : Str).length = 2 := by decide +kernel
  have e : (ts.map fun t => S (thingL t)) = (thingsL ts).map S := by
    rw [thingsL_map, List.map_map]
    rfl
  rw [e, strs_len, c0, List.length_map, sum_le_two]
  have := things_size ts sc n h hs
  omega
theorem body_len {C : Str → Prop} {A : Prop} {ts : List Thing} {sc : List Str} {n : Nat} (h : TsOk C A sc n ts) (hs : ScOk sc) (hc : cntB ts ≤ 1000) : (planL ts).length ≤ 80000 := by
  have := plan_size h hs
  omega
theorem rpl_things {H : Hp} {vs : List V} {ts : List Thing} (h : RpL H vs (encs ts)) {i : Nat} {x : V} (hx : vs[i]? = some x) : ∃ t, ts[i]? = some t ∧ Rp H x (enc t) := by
  obtain ⟨d, hd, hr⟩ := h.get hx
  rw [encs_map, List.getElem?_map] at hd
  cases ht : ts[i]? with
  | none => rw [ht] at hd; cases hd
  | some t =>
    rw [ht] at hd
    have : enc t = d := Option.some.inj hd
    exact ⟨t, rfl, this ▸ hr⟩
end OG

set_option Elab.async false
set_option linter.all false
set_option maxRecDepth 100000
set_option maxHeartbeats 4000000
namespace OG
open PySem PySem.Spec PyProof.Rows L2
mutual
def toPy : D → PyData
  | .non => .none
  | .bl b => .bool b
  | .int n => .int n
  | .str z => .str z
  | .tup xs => .tuple (toPys xs)
def toPys : List D → List PyData
  | [] => []
  | x :: xs => toPy x :: toPys xs
end
mutual
theorem rp_dp {K : PySem.W.Frag} {H : Hp} : ∀ (x : D) (v : V), Rp H v x → Dp K H v (toPy x)
  | .non, _, h => by rw [show _ = V.non from h]; exact .non
  | .bl b, _, h => by rw [show _ = V.bl b from h]; exact .bl b
  | .int n, _, h => by rw [show _ = V.int n from h]; exact .int n
  | .str z, _, h => by rw [show _ = V.str z from h]; exact .str z
  | .tup xs, _, h => by
    obtain ⟨a, vs, e, q, r⟩ := h
    rw [e]
    exact .tup (SqT.of q) (rp_dps xs vs r)
theorem rp_dps {K : PySem.W.Frag} {H : Hp} : ∀ (xs : List D) (vs : List V), RpL H vs xs → DpAll K H vs (toPys xs)
  | [], _, h => by rw [show _ = [] from h]; exact .nil
  | x :: xs, _, h => by
    obtain ⟨v, r, e, q, t⟩ := h
    rw [e]
    exact .cons (rp_dp x v q) (rp_dps xs r t)
end
theorem abc_range : ∀ c ∈ abc, 97 ≤ c ∧ c ≤ 122 := by
  have h : abc.all (fun c => decide (97 ≤ c) && decide (c ≤ 122)) = true := by decide +kernel
  intro c hc
  have := List.all_eq_true.mp h c hc
  simpa only [Bool.and_eq_true, decide_eq_true_eq] using this
theorem name_strOk {z : Str} (h : nameB z = true) : PyData.strOk z = true := by
  have ha := name_abc h
  unfold PyData.strOk
  rw [Array.all_eq_true']
  intro c hc
  have := abc_range c (ha c (by simpa [tl] using hc))
  simp
  omega
theorem end_py {sc : List Str} {e : Str × Int} (hs : ScOk sc) (h : EndOk sc e) : (toPy (encE e)).canLay0 = true ∧ (toPy (encE e)).depth = 1 := by
  have h1 : PyData.strOk e.1 = true := by
    rcases h with ⟨h1, _⟩ | ⟨h1, _⟩
    · rw [h1]
      decide +kernel
    · rcases hs _ h1 with h2 | h2
      · rw [h2]
        decide +kernel
      · exact name_strOk h2
  refine ⟨?_, rfl⟩
  show (PyData.strOk e.1 && (true && true)) = true
  rw [h1]
  rfl
mutual
theorem thing_py {C : Str → Prop} {A : Prop} : ∀ (t : Thing) (sc : List Str) (n : Nat), TOk C A sc n t → ScOk sc → (toPy (enc t)).canLay0 = true ∧ (toPy (enc t)).depth ≤ 2 * n + 2
  | .step k, sc, n, h, hs => ⟨by show (PyData.strOk "step" && (true && true)) = true; decide +kernel, by show 1 ≤ 2 * n + 2; omega⟩
  | .loop x a b body, sc, n, h, hs => by
    obtain ⟨h1, h2, h3, h4, h5, m, rfl, h6⟩ := h
    obtain ⟨a1, a2⟩ := end_py hs h3
    obtain ⟨b1, b2⟩ := end_py hs h4
    obtain ⟨c1, c2⟩ := things_py body _ _ h6 (scOk_snoc hs h1)
    have f1 : PyData.strOk "for" = true := by decide +kernel
    constructor
    · show (PyData.strOk "for" && (PyData.strOk x && ((toPy (encE a)).canLay0 && ((toPy (encE b)).canLay0 && (PyData.canLayAll0 (toPys (encs body)) && true))))) = true
      rw [f1, name_strOk h1, a1, b1, c1]
      rfl
    · show max 0 (max 0 (max (toPy (encE a)).depth (max (toPy (encE b)).depth (max (PyData.depthAll (toPys (encs body)) + 1) 0)))) + 1 ≤ 2 * (m + 1) + 2
      rw [a2, b2]
      omega
  | .test a b x y, sc, n, h, hs => by
    obtain ⟨h3, h4, h5, m, rfl, h6, h7⟩ := h
    obtain ⟨a1, a2⟩ := end_py hs h3
    obtain ⟨b1, b2⟩ := end_py hs h4
    obtain ⟨c1, c2⟩ := things_py x _ _ h6 hs
    obtain ⟨d1, d2⟩ := things_py y _ _ h7 hs
    have f1 : PyData.strOk "if" = true := by decide +kernel
    constructor
    · show (PyData.strOk "if" && ((toPy (encE a)).canLay0 && ((toPy (encE b)).canLay0 && (PyData.canLayAll0 (toPys (encs x)) && (PyData.canLayAll0 (toPys (encs y)) && true))))) = true
      rw [f1, a1, b1, c1, d1]
      rfl
    · show max 0 (max (toPy (encE a)).depth (max (toPy (encE b)).depth (max (PyData.depthAll (toPys (encs x)) + 1) (max (PyData.depthAll (toPys (encs y)) + 1) 0)))) + 1 ≤ 2 * (m + 1) + 2
      rw [a2, b2]
      omega
  | .twice b, sc, n, h, hs => by
    obtain ⟨h5, m, rfl, h6⟩ := h
    obtain ⟨c1, c2⟩ := things_py b _ _ h6 hs
    have f1 : PyData.strOk "double" = true := by decide +kernel
    constructor
    · show (PyData.strOk "double" && (PyData.canLayAll0 (toPys (encs b)) && true)) = true
      rw [f1, c1]
      rfl
    · show max 0 (max (PyData.depthAll (toPys (encs b)) + 1) 0) + 1 ≤ 2 * (m + 1) + 2
      omega
  | .call x e, sc, n, h, hs => by
    obtain ⟨a1, a2⟩ := end_py hs h.2.2
    have f1 : PyData.strOk "call" = true := by decide +kernel
    constructor
    · show (PyData.strOk "call" && (PyData.strOk x && ((toPy (encE e)).canLay0 && true))) = true
      rw [f1, name_strOk h.1, a1]
      rfl
    · show max 0 (max 0 (max (toPy (encE e)).depth 0)) + 1 ≤ 2 * n + 2
      rw [a2]
      omega
  | .again k w, sc, n, h, hs => by
    obtain ⟨_, _, _, h3⟩ := h
    have f1 : PyData.strOk "again" = true := by decide +kernel
    have f2 : PyData.strOk w = true := by
      rcases h3 with rfl | rfl | rfl
      · decide +kernel
      · decide +kernel
      · decide +kernel
    constructor
    · show (PyData.strOk "again" && (true && (PyData.strOk w && true))) = true
      rw [f1, f2]
      rfl
    · show 1 ≤ 2 * n + 2
      omega
theorem things_py {C : Str → Prop} {A : Prop} : ∀ (ts : List Thing) (sc : List Str) (n : Nat), TsOk C A sc n ts → ScOk sc → PyData.canLayAll0 (toPys (encs ts)) = true ∧ PyData.depthAll (toPys (encs ts)) ≤ 2 * n + 2
  | [], _, _, _, _ => ⟨rfl, Nat.zero_le _⟩
  | t :: r, sc, n, h, hs => by
    obtain ⟨a1, a2⟩ := thing_py t sc n h.1 hs
    obtain ⟨b1, b2⟩ := things_py r sc n h.2 hs
    constructor
    · show ((toPy (enc t)).canLay0 && PyData.canLayAll0 (toPys (encs r))) = true
      rw [a1, b1]
      rfl
    · show max (toPy (enc t)).depth (PyData.depthAll (toPys (encs r))) ≤ 2 * n + 2
      omega
end
/-- a body against the empty tuple -/
theorem body_eqv {C : Str → Prop} {A : Prop} {ts : List Thing} {sc : List Str} {n : Nat} (h : TsOk C A sc n ts) (hs : ScOk sc) (hn : n ≤ 20) :
    SeqAt.shaped (toPy (.tup (encs ts))) = true ∧ PyData.eqv (toPy (.tup (encs ts))) (.tuple []) = ts.isEmpty := by
  obtain ⟨a1, a2⟩ := things_py ts sc n h hs
  constructor
  · unfold SeqAt.shaped
    rw [show (toPy (.tup (encs ts))).canLay0 = true from a1]
    have : (toPy (.tup (encs ts))).depth ≤ 64 := by
      show PyData.depthAll (toPys (encs ts)) + 1 ≤ 64
      omega
    rw [decide_eq_true this]
    rfl
  · cases ts with
    | nil => rfl
    | cons t r => rfl
end OG

set_option Elab.async false
set_option linter.all false
set_option maxRecDepth 100000
set_option maxHeartbeats 4000000
namespace OG
open PySem PySem.Spec PyProof.Rows L2
def cutD (xs : List D) (lo hi : Option Int) : List D := (xs.drop (HT.sIx xs.length 0 lo)).take (HT.sIx xs.length xs.length hi - HT.sIx xs.length 0 lo)
theorem sl_rp {K : PySem.W.Frag} {H : Hp} {v : V} {xs : List D} {lo hi : Option Int} {Q : VK} (h : Rp H v (.tup xs)) (q : ∀ v' H', Same H H' → Rp H' v' (.tup (cutD xs lo hi)) → Q v' H') : rSlA K v lo hi H Q := by
  obtain ⟨a, vs, rfl, ha, r⟩ := id h
  have l := r.length
  refine ⟨a, vs, rfl, SqT.of ha, fun hw => ?_, fun hw p np => ?_⟩
  · have e : cutD xs lo hi = xs := by
      unfold cutD
      rw [← l, hw.1, hw.2, List.drop_zero, Nat.sub_zero, l, List.take_length]
    have := q (.ref a) H (Same.refl H)
    rw [e] at this
    exact this h
  · have s : Same H (upd H p (.tup (cutV vs lo hi))) := same_new np
    refine q (.ref p) _ s (rp_tup upd_same ?_)
    unfold cutV cutD
    rw [← l]
    exact ((r.drop _).take _).to (Imm.same s)
theorem cat_rp {K : PySem.W.Frag} {H : Hp} {x y : V} {xs ys : List D} {Q : VK} (hx : Rp H x (.tup xs)) (hy : Rp H y (.tup ys)) (hz : xs.length + ys.length ≤ 100000) (q : ∀ v' H', Same H H' → Rp H' v' (.tup (xs ++ ys)) → Q v' H') : rCatA K x y H Q := by
  obtain ⟨a, vs, rfl, ha, r⟩ := id hx
  obtain ⟨b, ws, rfl, hb, t⟩ := id hy
  have l := r.length
  have m := t.length
  refine ⟨a, b, vs, ws, rfl, rfl, SqT.of ha, SqT.of hb, sz (by omega), fun e => ?_, fun _ e => ?_, fun _ _ p np => ?_⟩
  · have : xs = [] := List.eq_nil_of_length_eq_zero (by rw [← l, e]; rfl)
    subst this
    exact q (.ref b) H (Same.refl H) hy
  · have : ys = [] := List.eq_nil_of_length_eq_zero (by rw [← m, e]; rfl)
    subst this
    have := q (.ref a) H (Same.refl H)
    rw [List.append_nil] at this
    exact this hx
  · have s : Same H (upd H p (.tup (vs ++ ws))) := same_new np
    exact q (.ref p) _ s (rp_tup upd_same ((r.append t).to (Imm.same s)))
theorem cutD_to (xs : List D) (k : Nat) : cutD xs none (some (k : Int)) = xs.take k := by
  unfold cutD
  rw [HT.sIx_none, HT.sIx_nat, List.drop_zero, Nat.sub_zero]
  by_cases h : k ≤ xs.length
  · rw [Nat.min_eq_left h]
  · rw [Nat.min_eq_right (by omega), List.take_length, List.take_of_length_le (by omega)]
theorem cutD_from (xs : List D) (k : Nat) : cutD xs (some (k : Int)) none = xs.drop k := by
  unfold cutD
  rw [HT.sIx_none, HT.sIx_nat]
  by_cases h : k ≤ xs.length
  · rw [Nat.min_eq_left h, List.take_of_length_le (by rw [List.length_drop]; omega)]
  · rw [Nat.min_eq_right (by omega), List.drop_length, Nat.sub_self, List.drop_eq_nil_of_le (by omega)]
    rfl
theorem encs_take (ts : List Thing) (k : Nat) : (encs ts).take k = encs (ts.take k) := by rw [encs_map, encs_map, List.map_take]
theorem encs_drop (ts : List Thing) (k : Nat) : (encs ts).drop k = encs (ts.drop k) := by rw [encs_map, encs_map, List.map_drop]
theorem cnt_take : ∀ (ts : List Thing) (k : Nat), cntB (ts.take k) ≤ cntB ts
  | _, 0 => Nat.zero_le _
  | [], k + 1 => Nat.le_refl _
  | t :: r, k + 1 => by
    have := cnt_take r k
    show cntT t + cntB (r.take k) ≤ cntT t + cntB r
    omega
theorem cnt_drop : ∀ (ts : List Thing) (k : Nat), cntB (ts.drop k) ≤ cntB ts
  | _, 0 => Nat.le_refl _
  | [], k + 1 => Nat.le_refl _
  | t :: r, k + 1 => by
    have := cnt_drop r k
    show cntB (r.drop k) ≤ cntT t + cntB r
    omega
mutual
theorem tok_mono {C C' : Str → Prop} {A A' : Prop} (hC : ∀ x, C x → C' x) (hA : A → A') : ∀ (t : Thing) (sc : List Str) (n : Nat), TOk C A sc n t → TOk C' A' sc n t
  | .step _, _, _, h => h
  | .loop x a b body, sc, n, h => by
    obtain ⟨h1, h2, h3, h4, h5, m, e, h6⟩ := h
    exact ⟨h1, h2, h3, h4, h5, m, e, tsok_mono hC hA body _ _ h6⟩
  | .test a b x y, sc, n, h => by
    obtain ⟨h3, h4, h5, m, e, h6, h7⟩ := h
    exact ⟨h3, h4, h5, m, e, tsok_mono hC hA x _ _ h6, tsok_mono hC hA y _ _ h7⟩
  | .twice b, sc, n, h => by
    obtain ⟨h5, m, e, h6⟩ := h
    exact ⟨h5, m, e, tsok_mono hC hA b _ _ h6⟩
  | .call x e, sc, n, h => ⟨h.1, hC _ h.2.1, h.2.2⟩
  | .again k w, sc, n, h => ⟨hA h.1, h.2⟩
theorem tsok_mono {C C' : Str → Prop} {A A' : Prop} (hC : ∀ x, C x → C' x) (hA : A → A') : ∀ (ts : List Thing) (sc : List Str) (n : Nat), TsOk C A sc n ts → TsOk C' A' sc n ts
  | [], _, _, _ => trivial
  | t :: r, sc, n, h => ⟨tok_mono hC hA t sc n h.1, tsok_mono hC hA r sc n h.2⟩
end
theorem tsok_append {C : Str → Prop} {A : Prop} {sc : List Str} {n : Nat} {a b : List Thing} (h : TsOk C A sc n a) (k : TsOk C A sc n b) : TsOk C A sc n (a ++ b) := by
  rw [tsok_iff] at h k ⊢
  intro t ht
  rcases List.mem_append.mp ht with h1 | h1
  · exact h t h1
  · exact k t h1
theorem tsok_take {C : Str → Prop} {A : Prop} {sc : List Str} {n : Nat} {a : List Thing} (h : TsOk C A sc n a) (k : Nat) : TsOk C A sc n (a.take k) := by
  rw [tsok_iff] at h ⊢
  exact fun t ht => h t (List.mem_of_mem_take ht)
theorem tsok_drop {C : Str → Prop} {A : Prop} {sc : List Str} {n : Nat} {a : List Thing} (h : TsOk C A sc n a) (k : Nat) : TsOk C A sc n (a.drop k) := by
  rw [tsok_iff] at h ⊢
  exact fun t ht => h t (List.mem_of_mem_drop ht)
theorem scOk_n : ScOk ["n"] := fun x hx => .inl (List.mem_singleton.mp hx)
abbrev CT : Str → Prop := fun _ => True
def spLaw (K : PySem.W.Frag) : Sp := fun vs H Q _ => ∃ (a : Addr) (ns : List Int), vs = [.ref a] ∧ SqL K H a (ns.map V.int) ∧ ns.length ≤ 63 ∧ ∀ H', Q (.bl true) H'
/-! depth and fit of a plan's datum -/
theorem depD_end (e : Str × Int) : depD (encE e) = 1 := rfl
mutual
theorem thing_dep {C : Str → Prop} {A : Prop} : ∀ (t : Thing) (sc : List Str) (n : Nat), TOk C A sc n t → depD (enc t) ≤ 2 * n + 2
  | .step k, _, n, _ => by show 1 ≤ 2 * n + 2; omega
  | .loop x a b body, sc, n, h => by
    obtain ⟨_, _, _, _, _, m, rfl, h6⟩ := h
    have := things_dep body _ _ h6
    show 1 + max 0 (max 0 (max 1 (max 1 (max (1 + depL (encs body)) 0)))) ≤ 2 * (m + 1) + 2
    omega
  | .test a b x y, sc, n, h => by
    obtain ⟨_, _, _, m, rfl, h6, h7⟩ := h
    have h8 := things_dep x _ _ h6
    have h9 := things_dep y _ _ h7
    show 1 + max 0 (max 1 (max 1 (max (1 + depL (encs x)) (max (1 + depL (encs y)) 0)))) ≤ 2 * (m + 1) + 2
    omega
  | .twice b, sc, n, h => by
    obtain ⟨_, m, rfl, h6⟩ := h
    have := things_dep b _ _ h6
    show 1 + max 0 (max (1 + depL (encs b)) 0) ≤ 2 * (m + 1) + 2
    omega
  | .call x e, _, n, _ => by show 1 + max 0 (max 0 (max 1 0)) ≤ 2 * n + 2; omega
  | .again k w, _, n, _ => by show 1 ≤ 2 * n + 2; omega
theorem things_dep {C : Str → Prop} {A : Prop} : ∀ (ts : List Thing) (sc : List Str) (n : Nat), TsOk C A sc n ts → depL (encs ts) ≤ 2 * n + 2
  | [], _, _, _ => Nat.zero_le _
  | t :: r, sc, n, h => by
    have h1 := thing_dep t sc n h.1
    have h2 := things_dep r sc n h.2
    show max (depD (enc t)) (depL (encs r)) ≤ 2 * n + 2
    omega
end
theorem plan_dep {C : Str → Prop} {A : Prop} {ts : List Thing} {sc : List Str} {n k : Nat} (h : TsOk C A sc n ts) (hk : 2 * n + 3 ≤ k) : depD (.tup (encs ts)) ≤ k := by
  have := things_dep ts sc n h
  show 1 + depL (encs ts) ≤ k
  omega
mutual
theorem thing_fit : ∀ (t : Thing), cntT t ≤ 1000 → fitD (enc t)
  | .step k, _ => ⟨by show 2 < 100000; decide, trivial, trivial, trivial⟩
  | .loop x a b body, h => by
    have h2 : 1 + cntB body ≤ 1000 := h
    have hl := cnt_len body
    exact ⟨by show 5 < 100000; decide, trivial, trivial, ⟨by show 2 < 100000; decide, trivial, trivial, trivial⟩, ⟨by show 2 < 100000; decide, trivial, trivial, trivial⟩, ⟨by rw [encs_length]; omega, things_fit body (by omega)⟩, trivial⟩
  | .test a b x y, h => by
    have h2 : 1 + cntB x + cntB y ≤ 1000 := h
    have hx := cnt_len x
    have hy := cnt_len y
    exact ⟨by show 5 < 100000; decide, trivial, ⟨by show 2 < 100000; decide, trivial, trivial, trivial⟩, ⟨by show 2 < 100000; decide, trivial, trivial, trivial⟩, ⟨by rw [encs_length]; omega, things_fit x (by omega)⟩, ⟨by rw [encs_length]; omega, things_fit y (by omega)⟩, trivial⟩
  | .twice b, h => by
    have h2 : 1 + cntB b ≤ 1000 := h
    have hl := cnt_len b
    exact ⟨by show 2 < 100000; decide, trivial, ⟨by rw [encs_length]; omega, things_fit b (by omega)⟩, trivial⟩
  | .call x e, _ => ⟨by show 3 < 100000; decide, trivial, trivial, ⟨by show 2 < 100000; decide, trivial, trivial, trivial⟩, trivial⟩
  | .again k w, _ => ⟨by show 3 < 100000; decide, trivial, trivial, trivial, trivial⟩
theorem things_fit : ∀ (ts : List Thing), cntB ts ≤ 1000 → fitL (encs ts)
  | [], _ => trivial
  | t :: r, h => by
    have h2 : cntT t + cntB r ≤ 1000 := h
    exact ⟨thing_fit t (by omega), things_fit r (by omega)⟩
end
theorem plan_fit {C : Str → Prop} {A : Prop} {ts : List Thing} {sc : List Str} {n : Nat} (_ : TsOk C A sc n ts) (h : cntB ts ≤ 1000) : fitD (.tup (encs ts)) := by
  have hl := cnt_len ts
  exact ⟨by rw [encs_length]; omega, things_fit ts h⟩
end OG

set_option Elab.async false
set_option linter.all false
set_option maxRecDepth 100000
set_option maxHeartbeats 4000000
namespace OG
open PySem PySem.Spec PyProof.Rows L2
/-! ### x *= y, x //= y -/
def ipC (c : Int → Int → Prop) (f : Int → Int → Int) : TIp := fun x y H Q => ∃ i j, x = .int i ∧ y = .int j ∧ c i j ∧ Q (.int (f i j)) H
theorem ip_mul {X : Cx} : PIp X .Mult (ipC CMul fun i j => i * j) := by
  intro pins s σ H x y v u Q I r1 r2 h
  obtain ⟨i, j, e1, e2, hc, q⟩ := h
  subst e1; subst e2
  obtain ⟨t, rfl⟩ := r1
  obtain ⟨t', rfl⟩ := r2
  exact imul_int ⟨.int _, H, I.tok _, ⟨_, rfl⟩, q⟩ hc.ok
theorem ip_fdiv {X : Cx} : PIp X .FloorDiv (ipC CDiv fun i j => i / j) := by
  intro pins s σ H x y v u Q I r1 r2 h
  obtain ⟨i, j, e1, e2, hc, q⟩ := h
  subst e1; subst e2
  obtain ⟨t, rfl⟩ := r1
  obtain ⟨t', rfl⟩ := r2
  have h1 : (0 : Int) < j := hc.1
  have h2 : j < 1073741824 := hc.2
  refine ifloordiv_int (by omega) ?_ (.inl (PyProof.noPylong_small (by omega)))
  rw [Int.fdiv_eq_ediv_of_nonneg i (by omega)]
  exact ⟨.int _, H, I.tok _, ⟨_, rfl⟩, q⟩
/-! ### signs -/
def sgn (n : Int) : Int := if n = 0 then 0 else if 0 < n then 1 else -1
theorem sgn_pos {n : Int} (h : 0 < n) : sgn n = 1 := by unfold sgn; rw [if_neg (by omega), if_pos h]
theorem sgn_neg {n : Int} (h : n < 0) : sgn n = -1 := by unfold sgn; rw [if_neg (by omega), if_neg (by omega)]
theorem sgn_zero : sgn 0 = 0 := rfl
theorem sgn_cases (n : Int) : (n < 0 ∧ sgn n = -1) ∨ (n = 0 ∧ sgn n = 0) ∨ (0 < n ∧ sgn n = 1) := by
  rcases Int.lt_trichotomy n 0 with h | h | h
  · exact .inl ⟨h, sgn_neg h⟩
  · subst h; exact .inr (.inl ⟨rfl, rfl⟩)
  · exact .inr (.inr ⟨h, sgn_pos h⟩)
/-! ### logarithms, rounded down -/
def flogF : Nat → Nat → Nat → Nat
  | 0, _, _ => 0
  | f + 1, b, N => if b ≤ N then flogF f b (N / b) + 1 else 0
def flog (b N : Nat) : Nat := flogF 700 b N
theorem flogF_spec : ∀ (f b N : Nat), 2 ≤ b → 1 ≤ N → N < 2 ^ f → b ^ flogF f b N ≤ N ∧ N < b ^ (flogF f b N + 1)
  | 0, b, N, hb, h1, h2 => by
    have : N < 1 := h2
    omega
  | f + 1, b, N, hb, h1, h2 => by
    unfold flogF
    by_cases h : b ≤ N
    · rw [if_pos h]
      have hd1 : 1 ≤ N / b := Nat.div_pos h (by omega)
      have hd2 : N / b < 2 ^ f := by
        refine Nat.div_lt_of_lt_mul ?_
        have e : 2 ^ (f + 1) = 2 * 2 ^ f := by rw [Nat.pow_succ, Nat.mul_comm]
        have := Nat.mul_le_mul_right (2 ^ f) hb
        omega
      obtain ⟨i1, i2⟩ := flogF_spec f b (N / b) hb hd1 hd2
      constructor
      · rw [Nat.pow_succ]
        exact (Nat.le_div_iff_mul_le (by omega)).mp i1
      · rw [Nat.pow_succ]
        exact (Nat.div_lt_iff_lt_mul (by omega)).mp i2
    · rw [if_neg h]
      constructor
      · exact h1
      · show N < b ^ 1
        rw [Nat.pow_one]
        omega
theorem log_uniq {b N i j : Nat} (hb : 2 ≤ b) (h1 : b ^ i ≤ N) (h2 : N < b ^ (i + 1)) (h3 : b ^ j ≤ N) (h4 : N < b ^ (j + 1)) : i = j := by
  have a1 : b ^ i < b ^ (j + 1) := Nat.lt_of_le_of_lt h1 h4
  have a2 : b ^ j < b ^ (i + 1) := Nat.lt_of_le_of_lt h3 h2
  have c1 := (Nat.pow_lt_pow_iff_right (a := b) (by omega)).mp a1
  have c2 := (Nat.pow_lt_pow_iff_right (a := b) (by omega)).mp a2
  omega
/-! ### growths -/
def Gs : List (Nat × Nat) := [(1, 2), (2, 3), (2, 2), (4, 3), (5, 3), (3, 2), (6, 3), (7, 3), (8, 3), (4, 2), (5, 2), (6, 2), (7, 2), (8, 2), (9, 2), (16, 2), (32, 2), (64, 2), (128, 2), (256, 2), (512, 2)]
def rank (p : Nat × Nat) : Int := (Gs.findIdx (fun q => q == p) : Nat)
def fdiff (p q : Nat × Nat) (u : Nat) : Int := (flog p.2 (p.1 ^ u) : Int) - (flog q.2 (q.1 ^ u) : Int)
def chk (p q : Nat × Nat) : Bool :=
  decide (p = q) || ((List.range 6).any (fun u => decide (fdiff p q (u + 1) ≠ 0)) && (List.range 6).all (fun u => decide (fdiff p q (u + 1) = 0) || decide (sgn (fdiff p q (u + 1)) = sgn (rank p - rank q))) && (decide (p.2 ≠ q.2) || decide (sgn ((p.1 : Int) - q.1) = sgn (rank p - rank q))))
theorem chk_all : Gs.all (fun p => Gs.all (fun q => chk p q)) = true := by decide +kernel
theorem chk_of {p q : Nat × Nat} (hp : p ∈ Gs) (hq : q ∈ Gs) : chk p q = true := List.all_eq_true.mp (List.all_eq_true.mp chk_all p hp) q hq
theorem gs_small : ∀ p ∈ Gs, 1 ≤ p.1 ∧ p.1 ≤ 512 ∧ (p.2 = 2 ∨ p.2 = 3) ∧ (p.2 = 3 → p.1 % 3 ≠ 0 ∨ p.1 = 6) ∧ (p.2 = 3 → p.1 ≠ 1 ∧ p.1 ≠ 3 ∧ p.1 ≠ 9) := by
  have h : Gs.all (fun p => decide (1 ≤ p.1 ∧ p.1 ≤ 512 ∧ (p.2 = 2 ∨ p.2 = 3) ∧ (p.2 = 3 → p.1 % 3 ≠ 0 ∨ p.1 = 6) ∧ (p.2 = 3 → p.1 ≠ 1 ∧ p.1 ≠ 3 ∧ p.1 ≠ 9))) = true := by decide +kernel
  exact fun p hp => of_decide_eq_true (List.all_eq_true.mp h p hp)
theorem rank_nn (p : Nat × Nat) : 0 ≤ rank p := Int.natCast_nonneg _
/-- two unlike growths are told apart at a power of six at most, and the first one at which they are tells their order -/
theorem tell {p q : Nat × Nat} (hp : p ∈ Gs) (hq : q ∈ Gs) (hne : p ≠ q) :
    (∃ U, 1 ≤ U ∧ U ≤ 6 ∧ fdiff p q U ≠ 0) ∧ (∀ u, 1 ≤ u → u ≤ 6 → fdiff p q u ≠ 0 → sgn (fdiff p q u) = sgn (rank p - rank q)) ∧ (p.2 = q.2 → sgn ((p.1 : Int) - q.1) = sgn (rank p - rank q)) := by
  have h := chk_of hp hq
  unfold chk at h
  rw [decide_eq_false hne, Bool.false_or, Bool.and_eq_true, Bool.and_eq_true] at h
  obtain ⟨⟨h1, h2⟩, h3⟩ := h
  refine ⟨?_, fun u u1 u6 hu => ?_, fun he => ?_⟩
  · obtain ⟨u, hu, hd⟩ := List.any_eq_true.mp h1
    have := List.mem_range.mp hu
    exact ⟨u + 1, by omega, by omega, of_decide_eq_true hd⟩
  · have := List.all_eq_true.mp h2 (u - 1) (List.mem_range.mpr (by omega))
    rw [show u - 1 + 1 = u by omega, decide_eq_false hu, Bool.false_or] at this
    exact of_decide_eq_true this
  · rw [decide_eq_false (fun z => z he), Bool.false_or] at h3
    exact of_decide_eq_true h3
theorem sgn_ne {n : Int} (h : sgn n ≠ 0) : n ≠ 0 := fun e => h (by rw [e]; rfl)
abbrev Gr := Option ((Nat × Nat) × Nat)
def encG : Gr → D
  | none => .non
  | some (p, f) => .tup [.int p.1, .int p.2, .int f]
def GOk : Gr → Prop
  | none => True
  | some (p, f) => p ∈ Gs ∧ f ≤ 10
def gval : Gr → Int
  | none => 0
  | some (p, f) => 1 + rank p * 16 + f
theorem gval_ne {p q : Nat × Nat} {f g : Nat} (hp : p ∈ Gs) (hq : q ∈ Gs) (hf : f ≤ 10) (hg : g ≤ 10) (hne : p ≠ q) : sgn (gval (some (p, f)) - gval (some (q, g))) = sgn (rank p - rank q) ∧ sgn (rank p - rank q) ≠ 0 := by
  obtain ⟨⟨U, u1, u2, hU⟩, h2, _⟩ := tell hp hq hne
  have e := h2 U u1 u2 hU
  have hz : sgn (rank p - rank q) ≠ 0 := by
    rw [← e]
    rcases sgn_cases (fdiff p q U) with ⟨_, h⟩ | ⟨h, _⟩ | ⟨_, h⟩
    · rw [h]; decide
    · exact absurd h hU
    · rw [h]; decide
  refine ⟨?_, hz⟩
  show sgn (1 + rank p * 16 + f - (1 + rank q * 16 + g)) = _
  rcases sgn_cases (rank p - rank q) with ⟨h, k⟩ | ⟨h, k⟩ | ⟨h, k⟩
  · rw [k, sgn_neg (by omega)]
  · exact absurd k hz
  · rw [k, sgn_pos (by omega)]
theorem gval_eq {p : Nat × Nat} {f g : Nat} : gval (some (p, f)) - gval (some (p, g)) = (f : Int) - g := by
  show 1 + rank p * 16 + f - (1 + rank p * 16 + g) = _
  omega
theorem gval_some {p : Nat × Nat} {f : Nat} : 0 < gval (some (p, f)) := by
  have := rank_nn p
  show 0 < 1 + rank p * 16 + (f : Int)
  omega
/-- the order of growths is that of numbers -/
theorem ord_turn (x y : Int) : sgn (x - y) = 0 - sgn (y - x) := by
  rcases sgn_cases (x - y) with ⟨h, k⟩ | ⟨h, k⟩ | ⟨h, k⟩
  · rw [k, sgn_pos (by omega)]; rfl
  · rw [k, show y - x = 0 by omega]; rfl
  · rw [k, sgn_neg (by omega)]; rfl
theorem ord_three (x y z : Int) (h : 0 ≤ sgn (x - y)) : sgn (y - z) < 0 ∨ 0 ≤ sgn (x - z) := by
  rcases sgn_cases (x - y) with ⟨h1, k1⟩ | ⟨h1, k1⟩ | ⟨h1, k1⟩ <;> rcases sgn_cases (y - z) with ⟨h2, k2⟩ | ⟨h2, k2⟩ | ⟨h2, k2⟩ <;> rcases sgn_cases (x - z) with ⟨h3, k3⟩ | ⟨h3, k3⟩ | ⟨h3, k3⟩ <;> omega
theorem pow_small {p : Nat × Nat} {u : Nat} (hp : p ∈ Gs) (hu : u ≤ 60) : 1 ≤ p.1 ^ u ∧ p.1 ^ u < 2 ^ 700 := by
  obtain ⟨h1, h2, _⟩ := gs_small p hp
  refine ⟨Nat.pow_pos h1, ?_⟩
  have a : p.1 ^ u ≤ 512 ^ u := Nat.pow_le_pow_left h2 u
  have b : 512 ^ u ≤ 512 ^ 60 := Nat.pow_le_pow_right (by decide) hu
  have c : 512 ^ 60 < 2 ^ 700 := by decide +kernel
  omega
theorem flog_spec {p : Nat × Nat} {u : Nat} (hp : p ∈ Gs) (hu : u ≤ 60) : p.2 ^ flog p.2 (p.1 ^ u) ≤ p.1 ^ u ∧ p.1 ^ u < p.2 ^ (flog p.2 (p.1 ^ u) + 1) := by
  obtain ⟨h1, h2⟩ := pow_small hp hu
  obtain ⟨_, _, h3, _⟩ := gs_small p hp
  exact flogF_spec 700 _ _ (by omega) h1 h2
/-! ### promises -/
def spSign : Sp := fun vs H Q _ => ∃ n : Int, vs = [.int n] ∧ Q (.int (sgn n)) H
def spPower : Sp := fun vs H Q _ => ∃ (b : Int) (e : Nat), vs = [.int b, .int e] ∧ -(2 ^ 64) < b ∧ b < 2 ^ 64 ∧ e ≤ 1000 ∧ Q (.int (b ^ e)) H
def spToldG : Sp := fun vs H Q _ => ∃ (p : Nat × Nat) (f : Nat), vs = [.int p.1, .int p.2, .int f] ∧ p ∈ Gs ∧ ∀ v H', Same H H' → Rp H' v (encG (some (p, f))) → Q v H'
def spWhole : Sp := fun vs H Q _ => ∃ (v : V) (p : Nat × Nat) (f u : Nat), vs = [v, .int u] ∧ Rp H v (encG (some (p, f))) ∧ p ∈ Gs ∧ 1 ≤ u ∧ u ≤ 60 ∧ Q (.int (flog p.2 (p.1 ^ u))) H
def spRoot : Sp := fun vs H Q _ => ∃ (p : Nat × Nat) (u : Nat), vs = [.int p.1, .int p.2, .int u] ∧ p ∈ Gs ∧ 1 ≤ u ∧ u ≤ 60 ∧ Q (.int (flog p.2 (p.1 ^ u))) H
def spOrder : Sp := fun vs H Q _ => ∃ (v w : V) (p q : Nat × Nat) (f g : Nat), vs = [v, w] ∧ Rp H v (encG (some (p, f))) ∧ Rp H w (encG (some (q, g))) ∧ p ∈ Gs ∧ q ∈ Gs ∧ Q (.int (sgn (rank p - rank q))) H
def spGreater : Sp := fun vs H Q _ => ∃ (v w : V) (g h : Gr), vs = [v, w] ∧ Rp H v (encG g) ∧ Rp H w (encG h) ∧ GOk g ∧ GOk h ∧ ∀ H', Same H H' → Q (.int (sgn (gval g - gval h))) H'
def spDrawnG : Sp := fun vs H Q _ => ∃ (d L : Addr), vs = [.ref d] ∧ Dr H d L ∧ ∀ (v : V) (g : Gr) (H' : Hp), Rp H' v (encG g) → GOk g → Dr H' d L → Go (· = d) H H' → Q v H'
end OG

set_option Elab.async false
set_option linter.all false
set_option maxRecDepth 100000
set_option maxHeartbeats 4000000
namespace OG
open PySem PySem.Spec PyProof.Rows L2
/-! ### a comprehension over a list, its element a call that leaves all as it was -/
theorem lc_list_map {K : PySem.W.Frag} {a : Addr} {xs : List V} {g : TG} {te : TE} {vs : List Nat} {σ : L2.St} {H1 : Hp} {D : Addr} {Qd : Hp → Prop} (ys : List V) (i0 : Nat) (hg : g = gName i0) (hw : ∀ v, wipe ((wipe σ vs).set i0 v) vs = wipe σ vs)
    (hlen : ys.length = xs.length) (hz : xs.length < 100000) (hS : H1 a = some (.lst xs)) (hD : H1 D = none)
    (he : ∀ (i : Nat) (x y : V) (H2 : Hp) (Q : VK), xs[i]? = some x → ys[i]? = some y → Same H1 H2 → (∀ H3, Same H2 H3 → Q y H3) → te ((wipe σ vs).set i0 (some x)) H2 Q)
    (hd : ∀ H', Same H1 H' → H' D = some (.lst ys) → Qd H') :
    ∃ W : Nat → Nat → Hp → Prop, (∃ m, W 0 m (upd H1 D (.lst []))) ∧ ∀ i m H, W i m H →
      ((Itl K a).stop i H ∧ Qd H) ∨ ((Itl K a).go i H ∧ ∃ Nx : Hp → Prop, (∀ H', Nx H' → ∃ m', m' < m ∧ W (i + 1) m' H') ∧ ∀ x H', (Itl K a).yld i H x H' → g x (wipe σ vs) H' fun σ2 H2 => wipe σ2 vs = wipe σ vs ∧ tYes σ2 H2 fun b H3 =>
        if b = true then te σ2 H3 fun y H4 => ∃ acc, H4 D = some (.lst acc) ∧ acc.length < sizeLine ∧ Nx (upd H4 D (.lst (acc ++ [y]))) else Nx H3) := by
  subst hg
  refine lc_list (xs := xs) (fun i H' => Same H1 H' ∧ H' D = some (.lst (ys.take i))) ⟨same_new hD, upd_same⟩ (fun i H' hi hP => SqL.of (hP.1 _ _ hS)) (fun i x H' hx hP => ?_) (fun H' hP => ?_)
  · obtain ⟨sm, hl⟩ := hP
    have hi : i < ys.length := by
      rw [hlen]
      obtain ⟨h, _⟩ := List.getElem?_eq_some_iff.mp hx
      exact h
    refine ⟨hw _, yes_go ?_⟩
    refine he i x ys[i] H' _ hx (List.getElem?_eq_getElem hi) sm fun H3 s3 => ?_
    refine ⟨ys.take i, s3 _ _ hl, ?_, Same.upd_new (sm.trans s3) hD, ?_⟩
    · rw [List.length_take]
      exact szl (by omega)
    · rw [upd_same, List.take_add_one, List.getElem?_eq_getElem hi]
      rfl
  · obtain ⟨sm, hl⟩ := hP
    rw [← hlen, List.take_length] at hl
    exact hd H' sm hl
/-- two lists of like flat values -/
theorem eq2_flats {H : Hp} {p q : Addr} {vs : List V} (n : Nat) (hp : H p = some (.lst vs)) (hq : H q = some (.lst vs)) (hf : vs.all flatV = true) (hl : vs.length < 100000) : Eq2 H (n + 1) (.ref p) (.ref q) :=
  .inr ⟨p, q, vs, vs, rfl, rfl, .inr ⟨hp, hq⟩, rfl, hl, fun k x y hx hy => by
    have e : x = y := Option.some.inj (hx.symm.trans hy)
    subst e
    exact Eq2.flat (List.all_eq_true.mp hf x (List.mem_of_getElem? hx)) n⟩
theorem atI_get {α : Type} {xs : List α} {i : Nat} {x : α} (h : xs[i]? = some x) : atI xs ((i : Nat) : Int) = some x := atI_nat h
/-! ### rows of an order -/
def rowL (xs : List Int) (x : Int) : List V := xs.map fun y => V.int (sgn (x - y))
theorem rowL_len (xs : List Int) (x : Int) : (rowL xs x).length = xs.length := List.length_map _
theorem rowL_get {xs : List Int} {x y : Int} {i : Nat} (h : xs[i]? = some y) : (rowL xs x)[i]? = some (.int (sgn (x - y))) := by
  unfold rowL
  rw [List.getElem?_map, h]
  rfl
theorem rowL_flat (xs : List Int) (x : Int) : (rowL xs x).all flatV = true := by
  rw [List.all_eq_true]
  intro v hv
  obtain ⟨y, _, rfl⟩ := List.mem_map.mp hv
  rfl
theorem rpl_gr {H : Hp} {vs : List V} {gs : List Gr} (h : RpL H vs (gs.map encG)) {i : Nat} {x : V} (hx : vs[i]? = some x) : ∃ g, gs[i]? = some g ∧ Rp H x (encG g) := by
  obtain ⟨d, hd, hr⟩ := h.get hx
  rw [List.getElem?_map] at hd
  cases ht : gs[i]? with
  | none => rw [ht] at hd; cases hd
  | some t =>
    rw [ht] at hd
    have : encG t = d := Option.some.inj hd
    exact ⟨t, rfl, this ▸ hr⟩
theorem gvals_get {gs : List Gr} {i : Nat} {g : Gr} (h : gs[i]? = some g) : (gs.map gval)[i]? = some (gval g) := by
  rw [List.getElem?_map, h]
  rfl
/-- the rows of marks made so far -/
def Marks (H : Hp) (M : Addr) (xs : List Int) (rs : List Addr) : Prop := H M = some (.lst (rs.map V.ref)) ∧ ∀ (j : Nat) (r : Addr), rs[j]? = some r → ∃ x, xs[j]? = some x ∧ H r = some (.lst (rowL xs x))
theorem Marks.same {H H' : Hp} {M : Addr} {xs : List Int} {rs : List Addr} (h : Marks H M xs rs) (s : Same H H') : Marks H' M xs rs :=
  ⟨s _ _ h.1, fun j r hj => by
    obtain ⟨x, h1, h2⟩ := h.2 j r hj
    exact ⟨x, h1, s _ _ h2⟩⟩
end OG

set_option Elab.async false
set_option linter.all false
set_option maxRecDepth 100000
set_option maxHeartbeats 4000000
namespace OG
open PySem PySem.Spec PyProof.Rows L2
/-! ### sorted(d), d a dict whose keys are pairs of ints -/
def keyAt (H : Hp) (b : Addr) : Int × Int := match H b with
  | some (.tup [.int i, .int j]) => (i, j)
  | _ => (0, 0)
def addrOf : Value → Addr
  | .ref a => a
  | _ => 0
theorem keyAt_of {H : Hp} {b : Addr} {i j : Int} (h : H b = some (.tup [.int i, .int j])) : keyAt H b = (i, j) := by
  unfold keyAt
  rw [h]
abbrev pairK (p : Int × Int) : List Key := [Sum.inl p.1, Sum.inl p.2]
def rSortDT : List V → Hp → VK → Prop := fun xs H Q => ∃ (a : Addr) (kvs : List (List Key × V)) (ks : List (Int × Int)), xs = [.ref a] ∧ Rd H a (.dT kvs) ∧ kvs.map (·.1) = ks.map pairK ∧
  ∀ (bs : List Addr) (p : Addr), (bs.map (keyAt H)).Perm ks → (∀ b ∈ bs, H b = some (.tup [.int (keyAt H b).1, .int (keyAt H b).2])) → SrtO.Srtd (fun x y => SrtO.lexB (keyAt H x) (keyAt H y)) bs → H p = none → Q (.ref p) (upd H p (.lst (bs.map V.ref)))
theorem keys_paired {H : Hp} : ∀ {kvs : List (List Key × V)} {bs : List Addr} {ks : List (Int × Int)}, IsKeys H kvs bs → kvs.map (·.1) = ks.map pairK → bs.map (keyAt H) = ks ∧ ∀ b ∈ bs, H b = some (.tup [.int (keyAt H b).1, .int (keyAt H b).2])
  | [], [], [], _, _ => ⟨rfl, fun _ h => by cases h⟩
  | [], [], k :: ks, _, e => by cases e
  | kv :: kvs, b :: bs, [], _, e => by cases e
  | kv :: kvs, b :: bs, k :: ks, h, e => by
    cases h with
    | cons h t =>
      have e1 : kv.1 = pairK k := (List.cons.inj e).1
      have e2 : kvs.map (·.1) = ks.map pairK := (List.cons.inj e).2
      obtain ⟨i1, i2⟩ := keys_paired t e2
      rw [e1] at h
      have hb : H b = some (.tup [.int k.1, .int k.2]) := h
      have hk := keyAt_of hb
      refine ⟨by rw [List.map_cons, i1, hk], fun c hc => ?_⟩
      rcases List.mem_cons.mp hc with rfl | hc
      · rw [hk]
        exact hb
      · exact i2 c hc
/-- what is gathered of a dict's entries: the places of its keys, in their order -/
theorem keys_gathered {P : Program} {w : World} {kts : List (List Key × Addr × Value)} {ents : Array DictEntry} (hE : ents.toList = kts.map (entryOfKey (tupleKind (mixKind P w)))) {got : Array Value}
    (hI : ItemsOf (fun i v => ∃ en : DictEntry, ents[i]? = some en ∧ v = en.key) got ents.size) : got.toList = (kts.map fun t => t.2.1).map Value.ref := by
  have hk : ents.toList.map (·.key) = (kts.map fun t => t.2.1).map Value.ref := by
    rw [hE, List.map_map, List.map_map]
    rfl
  rw [← hk]
  refine List.ext_getElem? fun j => ?_
  by_cases hlt : j < got.size
  · obtain ⟨en, k1, k2⟩ := hI.2 j got[j] (by simp [hlt])
    have k3 : ents.toList[j]? = some en := by simpa using k1
    rw [List.getElem?_map, k3]
    have k4 : got.toList[j]? = some got[j] := by simp [hlt]
    rw [k4, k2]
    rfl
  · have k1 : got.toList.length ≤ j := by simpa using hlt
    have k2 : (ents.toList.map (·.key)).length ≤ j := by
      rw [List.length_map, Array.length_toList, ← hI.1]
      simpa using hlt
    rw [List.getElem?_eq_none k1, List.getElem?_eq_none k2]
/-- a list of the values vs at its end, a new one behind all -/
abbrev withList (h : Heap) (vs : List Value) : Heap := h.push (seqObj "list" vs.toArray 0)
theorem call_sortedDT {X : Cx} (calm : X.calm = true) : CallR X (.builtin "sorted") rSortDT := by
  intro pins sh st H args vals Qv inv rel ask
  obtain ⟨dct, table, kl, rfl, held, keysEq, wish⟩ := ask
  obtain ⟨arg, rfl, rarg⟩ := rel.one
  cases rarg
  obtain ⟨small, notSys, kts, paired, obj, ents, nx, at0, exact0, data0, entEq, _⟩ := (show ObjOk X.prog X.w H sh.heap dct (.dT table) from held.ok inv.hok)
  have sizeE : ents.size = kts.length := size_of_entries entEq
  have sizeT : table.length = kts.length := Paired.length paired
  obtain ⟨back, tupAt⟩ := keys_paired (isKeys_of paired) keysEq
  refine Calls.call_function_entry kind_sorted plain_sorted entry_sorted (args_sorted1 _) ?_
  unfold Builtin.«sorted»
  refine wpAny_bind (m := checkCount "sorted" 1 1 _) (wpAny_pure (wpAny_bind ?_))
  refine PySem.W.kdu_collect (A := X.A.in1) (kdl_raw notSys exact0 data0) (inv.ok.hd calm) at0 (by omega) fun hp tok got keep items => ?_
  have gotEq := keys_gathered entEq items
  have inv1 : Inv X pins st H { sh with heap := hp, toks := tok } := inv.kept keep
  have fits : got.toList.length ≤ sizeLine := by
    rw [gotEq, List.length_map, List.length_map]
    omega
  refine wpAny_bind (wpAny_newList (items := got.toList) ?_ fits)
  have newAt : (withList hp got.toList).get? hp.objs.size = some (seqObj "list" got.toList.toArray 0) := Heap.get?_push_size _ rfl
  have pairs : ∀ v ∈ got.toList, Srt.IsPair (withList hp got.toList) v (keyAt H (addrOf v)).1 (keyAt H (addrOf v)).2 := fun v hv => by
    rw [gotEq] at hv
    obtain ⟨b, hb, rfl⟩ := List.mem_map.mp hv
    obtain ⟨_, its, both, ob, o1, o2, c, o3⟩ := inv1.hok _ _ (tupAt b hb)
    obtain ⟨i1, i2, rfl, e1, e2⟩ := vals2 both
    obtain ⟨k1, rfl⟩ := e1
    obtain ⟨k2, rfl⟩ := e2
    exact ⟨b, ob, k1, k2, c, rfl, Heap.get?_push_of_some _ o1, o2, o3⟩
  show wpAny _ _ _ _ _ { sh with heap := withList hp got.toList, toks := tok }
  have sortable : 2 ≤ got.toList.length → SrtO.SortableO X.prog X.w X.A.in1.in1 { sh with heap := withList hp got.toList, toks := tok } hp.objs.size got.toList fun v u => SrtO.lexB (keyAt H (addrOf v)) (keyAt H (addrOf u)) := fun two =>
    SrtO.pairs_sortableO (k := fun v => keyAt H (addrOf v)) (by omega) pairs fun o same => by
      have hs : some o = some (seqObj "list" got.toList.toArray 0) := same.symm.trans newAt
      cases hs
      exact fun c => absurd (Value.type.inj c) (by decide)
  refine wpAny_bind (wpAny_holding (wpAny_call_entry slot_list_sort ⟨_, newAt, rfl⟩ entry_list_sort
    (SrtO.list_sort_ord (s := { sh with heap := withList hp got.toList, toks := tok }) (SrtO.swo_lex fun v => keyAt H (addrOf v)) newAt fits sortable fun out up stb => ⟨_, rfl, ?_⟩) (args_list_sort _)))
  obtain ⟨n', sortedAt⟩ := sortedHeap_at (vs := got.toList) (out := out.toArray) newAt
  have refs : ∀ v ∈ out, Value.ref (addrOf v) = v := fun v hv => by
    have hm := stb.perm.mem_iff.mp hv
    rw [gotEq] at hm
    obtain ⟨b, _, rfl⟩ := List.mem_map.mp hm
    rfl
  have outEq : (out.map addrOf).map Value.ref = out := by
    rw [List.map_map]
    exact (List.map_congr_left refs).trans (List.map_id _)
  have perm : (out.map addrOf).Perm (kts.map fun t => t.2.1) := by
    have p1 := stb.perm.map addrOf
    rw [gotEq, List.map_map] at p1
    exact p1.trans (List.Perm.of_eq (List.map_id _))
  have rels : Vals ((out.map addrOf).map V.ref) out := by
    have r1 := vals_refs (out.map addrOf)
    rw [outEq] at r1
    exact r1
  have fits2 : ((out.map addrOf).map V.ref).length ≤ sizeLine := by
    rw [List.length_map, List.length_map, stb.perm.length_eq]
    exact fits
  have laid : Inv X pins st (upd H hp.objs.size (.lst ((out.map addrOf).map V.ref))) { sh with heap := sortedHeap (withList hp got.toList) hp.objs.size got.toList out.toArray, toks := tok } :=
    inv1.laid (t' := tok) (fun b u e => by
      have before := Heap.lt_size e
      rw [sortedHeap_old (Nat.ne_of_lt before) (by rw [size_push']; exact Nat.lt_succ_of_lt before)]
      exact Heap.get?_push_of_some _ e) (Nat.le_refl _) ⟨fits2, out, n', rels, sortedAt⟩
  refine wpAny_pure ⟨_, rfl, .ref hp.objs.size, _, laid, rfl, wish (out.map addrOf) _ ?_ (fun b hb => tupAt b (perm.mem_iff.mp hb)) (List.pairwise_map.mpr up) (inv1.hok.fresh (Nat.le_refl _))⟩
  have p2 := perm.map (keyAt H)
  rw [back] at p2
  exact p2
end OG

set_option Elab.async false
set_option linter.all false
set_option maxRecDepth 100000
set_option maxHeartbeats 4000000
namespace OG
open PySem PySem.Spec PyProof.Rows L2
/-! ### drawing from many sides -/
def spTakeW : Sp := fun vs H Q _ => ∃ (d L : Addr) (k : Int), vs = [.ref d, .int k] ∧ Dr H d L ∧ 1 ≤ k ∧ k < 2 ^ 200 ∧
  ∀ (g : Int) (H' : Hp), 0 ≤ g → g < k → Dr H' d L → But d H H' → Q (.int g) H'
theorem take_of_wide : ∀ vs H Q E, spTake vs H Q E → spTakeW vs H Q E := fun vs H Q E h => by
  obtain ⟨d, L, k, h1, h2, h3, h4, q⟩ := h
  exact ⟨d, L, k, h1, h2, h3, by omega, q⟩
/-! ### terms and rows -/
abbrev Term := (Int × Int) × (Int × Int)
def encP (p : Int × Int) : D := .tup [.int p.1, .int p.2]
def encT (t : Term) : D := .tup [encP t.1, encP t.2]
abbrev Row := Int × List Term
/-- what a drawn term is -/
structure TermOk (top deep wide : Int) (t : Term) : Prop where
  p0 : 0 ≤ t.1.1
  p1 : t.1.1 ≤ top
  f0 : 0 ≤ t.1.2
  f1 : t.1.2 ≤ deep
  nz : t.2.1 ≠ 0
  o1 : t.2.1.natAbs ≤ wide.toNat
  u0 : 1 ≤ t.2.2
  u1 : t.2.2 ≤ 2
def Falls (ts : List Term) : Prop := ts.Pairwise fun x y => SrtO.lexB y.1 x.1 = true
/-- at l stands a list of these terms -/
def TermsAt (H : Hp) (l : Addr) (ts : List Term) : Prop := ∃ us, H l = some (.lst us) ∧ RpL H us (ts.map encT)
theorem TermsAt.same {H H' : Hp} {l : Addr} {ts : List Term} (h : TermsAt H l ts) (s : Same H H') : TermsAt H' l ts := by
  obtain ⟨us, h1, h2⟩ := h
  exact ⟨us, s _ _ h1, h2.to (Imm.same s)⟩
theorem TermsAt.go {M : Addr → Prop} {H H' : Hp} {l : Addr} {ts : List Term} (h : TermsAt H l ts) (g : Go M H H') (n : ¬ M l) : TermsAt H' l ts := by
  obtain ⟨us, h1, h2⟩ := h
  exact ⟨us, g.at h1 n, h2.to g.im⟩
theorem TermsAt.upd {H : Hp} {l p : Addr} {ts : List Term} {o : HO} {xs : List V} (h : TermsAt H l ts) (n : l ≠ p) (hp : H p = some (.lst xs)) : TermsAt (upd H p o) l ts := by
  obtain ⟨us, h1, h2⟩ := h
  refine ⟨us, ?_, h2.to ((Imm.refl H).upd fun ys e => by rw [hp] at e; cases e)⟩
  rw [upd_ne n]
  exact h1
def RowAt (H : Hp) (u : V) (r : Row) (l : Addr) : Prop := ∃ a, u = .ref a ∧ H a = some (.tup [.int r.1, .ref l]) ∧ TermsAt H l r.2
theorem RowAt.same {H H' : Hp} {u : V} {r : Row} {l : Addr} (h : RowAt H u r l) (s : Same H H') : RowAt H' u r l := by
  obtain ⟨a, h1, h2, h3⟩ := h
  exact ⟨a, h1, s _ _ h2, h3.same s⟩
theorem RowAt.go {M : Addr → Prop} {H H' : Hp} {u : V} {r : Row} {l : Addr} (h : RowAt H u r l) (g : Go M H H') (n : ¬ M l) : RowAt H' u r l := by
  obtain ⟨a, h1, h2, h3⟩ := h
  exact ⟨a, h1, g.im _ _ h2, h3.go g n⟩
theorem RowAt.upd {H : Hp} {u : V} {r : Row} {l p : Addr} {o : HO} {xs : List V} (h : RowAt H u r l) (n : l ≠ p) (hp : H p = some (.lst xs)) : RowAt (upd H p o) u r l := by
  obtain ⟨a, h1, h2, h3⟩ := h
  refine ⟨a, h1, ?_, h3.upd n hp⟩
  have : a ≠ p := ne_of h2 hp (fun z => by cases z)
  rw [upd_ne this]
  exact h2
inductive RowsAt (H : Hp) : List V → List Row → List Addr → Prop where
  | nil : RowsAt H [] [] []
  | cons {u : V} {r : Row} {l : Addr} {us : List V} {rs : List Row} {ls : List Addr} (h : RowAt H u r l) (t : RowsAt H us rs ls) : RowsAt H (u :: us) (r :: rs) (l :: ls)
theorem RowsAt.same {H H' : Hp} (s : Same H H') {us : List V} {rs : List Row} {ls : List Addr} (h : RowsAt H us rs ls) : RowsAt H' us rs ls := by
  induction h with
  | nil => exact .nil
  | cons h t ih => exact .cons (h.same s) ih
theorem RowsAt.go {M : Addr → Prop} {H H' : Hp} (g : Go M H H') {us : List V} {rs : List Row} {ls : List Addr} (h : RowsAt H us rs ls) (n : ∀ l ∈ ls, ¬ M l) : RowsAt H' us rs ls := by
  induction h with
  | nil => exact .nil
  | cons h t ih => exact .cons (h.go g (n _ List.mem_cons_self)) (ih fun l hl => n l (List.mem_cons_of_mem _ hl))
theorem RowsAt.upd {H : Hp} {p : Addr} {o : HO} {xs : List V} (hp : H p = some (.lst xs)) {us : List V} {rs : List Row} {ls : List Addr} (h : RowsAt H us rs ls) (n : ∀ l ∈ ls, l ≠ p) : RowsAt (upd H p o) us rs ls := by
  induction h with
  | nil => exact .nil
  | cons h t ih => exact .cons (h.upd (n _ List.mem_cons_self) hp) (ih fun l hl => n l (List.mem_cons_of_mem _ hl))
theorem RowsAt.append {H : Hp} {us us2 : List V} {rs rs2 : List Row} {ls ls2 : List Addr} (h : RowsAt H us rs ls) (k : RowsAt H us2 rs2 ls2) : RowsAt H (us ++ us2) (rs ++ rs2) (ls ++ ls2) := by
  induction h with
  | nil => exact k
  | cons h t ih => exact .cons h ih
theorem RowsAt.len {H : Hp} {us : List V} {rs : List Row} {ls : List Addr} (h : RowsAt H us rs ls) : us.length = rs.length ∧ ls.length = rs.length := by
  induction h with
  | nil => exact ⟨rfl, rfl⟩
  | cons h t ih => exact ⟨by rw [List.length_cons, List.length_cons, ih.1], by rw [List.length_cons, List.length_cons, ih.2]⟩
theorem RowsAt.get {H : Hp} : ∀ {us : List V} {rs : List Row} {ls : List Addr} {i : Nat} {u : V}, RowsAt H us rs ls → us[i]? = some u → ∃ r l, rs[i]? = some r ∧ ls[i]? = some l ∧ RowAt H u r l
  | _, _, _, i, u, .nil, hu => by simp at hu
  | _, _, _, 0, u, .cons h t, hu => by
    have e := Option.some.inj hu
    subst e
    exact ⟨_, _, rfl, rfl, h⟩
  | _, _, _, i + 1, u, .cons h t, hu => RowsAt.get (i := i) t hu
/-- at S stand these sums -/
def SumsAt (H : Hp) (S : Addr) (rs : List Row) (ls : List Addr) : Prop := ∃ us, H S = some (.lst us) ∧ RowsAt H us rs ls
theorem SumsAt.same {H H' : Hp} {S : Addr} {rs : List Row} {ls : List Addr} (h : SumsAt H S rs ls) (s : Same H H') : SumsAt H' S rs ls := by
  obtain ⟨us, h1, h2⟩ := h
  exact ⟨us, s _ _ h1, h2.same s⟩
theorem SumsAt.go {M : Addr → Prop} {H H' : Hp} {S : Addr} {rs : List Row} {ls : List Addr} (h : SumsAt H S rs ls) (g : Go M H H') (n : ¬ M S) (m : ∀ l ∈ ls, ¬ M l) : SumsAt H' S rs ls := by
  obtain ⟨us, h1, h2⟩ := h
  exact ⟨us, g.at h1 n, h2.go g m⟩
/-! ### the dict of terms that are drawn -/
theorem putK_keys {κ : Type} [DecidableEq κ] {kvs : List (κ × V)} {k : κ} {x : V} (v : V) (h : valV kvs k = some x) : (putK kvs k v).map (·.1) = kvs.map (·.1) := by
  have ha := valV_any k kvs
  rw [h] at ha
  have ha' : (kvs.any fun kv => decide (kv.1 = k)) = true := ha
  unfold putK
  rw [if_pos ha', List.map_map]
  refine List.map_congr_left fun kv _ => ?_
  show (if kv.1 = k then (kv.1, v) else kv).1 = kv.1
  split <;> rfl
theorem pairK_inj {p q : Int × Int} (h : pairK p = pairK q) : p = q := by
  have h1 := (List.cons.inj h).1
  have h2 := (List.cons.inj (List.cons.inj h).2).1
  obtain ⟨a, b⟩ := p
  obtain ⟨c, d⟩ := q
  have e1 : a = c := Sum.inl.inj h1
  have e2 : b = d := Sum.inl.inj h2
  rw [e1, e2]
def TDict (H : Hp) (F : Addr) (P : Int × Int → Int × Int → Prop) (n : Nat) : Prop := ∃ (kvs : List (List Key × V)) (ks : List (Int × Int)), H F = some (.dT kvs) ∧ kvs.map (·.1) = ks.map pairK ∧ ks.Nodup ∧ ks.length ≤ n ∧
  ∀ p ∈ ks, ∃ v o, valV kvs (pairK p) = some v ∧ Rp H v (encP o) ∧ P p o
theorem TDict.to {H H' : Hp} {F : Addr} {P : Int × Int → Int × Int → Prop} {n : Nat} (h : TDict H F P n) (e : H' F = H F) (i : Imm H H') : TDict H' F P n := by
  obtain ⟨kvs, ks, h1, h2, h3, h4, h5⟩ := h
  refine ⟨kvs, ks, e.trans h1, h2, h3, h4, fun p hp => ?_⟩
  obtain ⟨v, o, a, b, c⟩ := h5 p hp
  exact ⟨v, o, a, b.to i, c⟩
theorem TDict.put {H : Hp} {F : Addr} {P : Int × Int → Int × Int → Prop} {n : Nat} (h : TDict H F P n) {kvs : List (List Key × V)} (hF : H F = some (.dT kvs)) {p o : Int × Int} {v : V} (hv : Rp H v (encP o)) (hP : P p o) :
    TDict (upd H F (.dT (putK kvs (pairK p) v))) F P (n + 1) := by
  obtain ⟨kvs', ks, h1, h2, h3, h4, h5⟩ := h
  have e : kvs' = kvs := by
    rw [hF] at h1
    exact (HO.dT.inj (Option.some.inj h1)).symm
  subst e
  have i : Imm H (upd H F (.dT (putK kvs' (pairK p) v))) := (Imm.refl H).upd fun xs z => by rw [hF] at z; cases z
  by_cases hm : p ∈ ks
  · obtain ⟨v0, o0, a0, _, _⟩ := h5 p hm
    refine ⟨_, ks, upd_same, (putK_keys v a0).trans h2, h3, by omega, fun q hq => ?_⟩
    rw [valV_put]
    by_cases hqp : q = p
    · subst hqp
      exact ⟨v, o, if_pos rfl, hv.to i, hP⟩
    · obtain ⟨v1, o1, a1, b1, c1⟩ := h5 q hq
      exact ⟨v1, o1, by rw [if_neg fun z => hqp (pairK_inj z)]; exact a1, b1.to i, c1⟩
  · have hn : valV kvs' (pairK p) = none := by
      cases hz : valV kvs' (pairK p) with
      | none => rfl
      | some x =>
        have hx := valV_any (pairK p) kvs'
        rw [hz] at hx
        obtain ⟨kv, hkv, hd⟩ := List.any_eq_true.mp hx
        have : kv.1 ∈ kvs'.map (·.1) := List.mem_map.mpr ⟨kv, hkv, rfl⟩
        rw [h2, of_decide_eq_true hd] at this
        obtain ⟨q, hq, e⟩ := List.mem_map.mp this
        rw [pairK_inj e] at hq
        exact absurd hq hm
    refine ⟨_, ks ++ [p], upd_same, ?_, ?_, by rw [List.length_append]; show ks.length + 1 ≤ n + 1; omega, fun q hq => ?_⟩
    · rw [putK_new v hn, List.map_append, List.map_append, h2]
      rfl
    · rw [List.nodup_append]
      refine ⟨h3, by simp, fun a ha b hb => ?_⟩
      rw [List.mem_singleton.mp hb]
      exact fun e => hm (e ▸ ha)
    · rw [valV_put]
      rcases List.mem_append.mp hq with hq | hq
      · have hqp : q ≠ p := fun e => hm (e ▸ hq)
        obtain ⟨v1, o1, a1, b1, c1⟩ := h5 q hq
        exact ⟨v1, o1, by rw [if_neg fun z => hqp (pairK_inj z)]; exact a1, b1.to i, c1⟩
      · rw [List.mem_singleton.mp hq]
        exact ⟨v, o, if_pos rfl, hv.to i, hP⟩
/-! ### promises -/
def spGcd : Sp := fun vs H Q _ => ∃ a b : Int, vs = [.int a, .int b] ∧ Q (.int (Int.gcd a b : Nat)) H
def lowOf (o u : Int) : Int × Int := (o / (Int.gcd o u : Nat), u / (Int.gcd o u : Nat))
def spLowest : Sp := fun vs H Q _ => ∃ o u : Int, vs = [.int o, .int u] ∧ 1 ≤ u ∧ u.natAbs < 2 ^ 8000 ∧ ∀ v H', Same H H' → Rp H' v (encP (lowOf o u)) → Q v H'
def spTerms : Sp := fun vs H Q _ => ∃ (d L : Addr) (top deep wide : Int), vs = [.ref d, .int top, .int deep, .int wide] ∧ Dr H d L ∧ 0 ≤ top ∧ top ≤ 9 ∧ 0 ≤ deep ∧ deep ≤ 9 ∧ 1 ≤ wide ∧ wide < 2 ^ 100 ∧
  ∀ (l : Addr) (ts : List Term) (H' : Hp), H l = none → l ≠ d → TermsAt H' l ts → (∀ t ∈ ts, TermOk top deep wide t) → ts.length ≤ 3 → Falls ts → Dr H' d L → Go (· = d) H H' → Q (.ref l) H'
/-- the rows of drawn sums -/
structure RowsOk (top deep wide : Int) (rs : List Row) : Prop where
  n0 : rs ≠ []
  n4 : rs.length ≤ 4
  terms : ∀ r ∈ rs, (∀ t ∈ r.2, TermOk top deep wide t) ∧ r.2.length ≤ 3 ∧ Falls r.2
  first : (rs.head?.map (·.1)) = some 0
  rises : (rs.map (·.1)).Pairwise (· < ·)
  since : ∀ r ∈ rs, 0 ≤ r.1 ∧ r.1 ≤ 1000
def spSums : Sp := fun vs H Q _ => ∃ (d L : Addr) (top deep wide : Int), vs = [.ref d, .int top, .int deep, .int wide] ∧ Dr H d L ∧ 0 ≤ top ∧ top ≤ 9 ∧ 0 ≤ deep ∧ deep ≤ 9 ∧ 1 ≤ wide ∧ wide < 2 ^ 100 ∧
  ∀ (S : Addr) (rs : List Row) (ls : List Addr) (H' : Hp), H S = none → S ≠ d → (∀ l ∈ ls, H l = none ∧ l ≠ d ∧ l ≠ S) → SumsAt H' S rs ls → RowsOk top deep wide rs → Dr H' d L → Go (· = d) H H' → Q (.ref S) H'
end OG

set_option Elab.async false
set_option linter.all false
set_option maxRecDepth 100000
set_option maxHeartbeats 4000000
namespace OG
open PySem PySem.Spec PyProof.Rows L2
/-! ### sums as they are written -/
def Sm (i : Int) : Prop := i.natAbs.log2 < 101
theorem Sm.of {i : Int} (h : i.natAbs ≤ 2 ^ 100) : Sm i := by
  have : i.natAbs < 2 ^ 101 := Nat.lt_of_le_of_lt h (by decide)
  exact PySem.Flt.log2_lt_of (by decide) this
theorem Sm.log {i : Int} (h : Sm i) : i.natAbs.log2 < 1920 := Nat.lt_trans h (by decide)
theorem Sm.len {i : Int} (h : Sm i) : (toString i : Str).length ≤ 102 := by
  have := int_text_length_le (a := i) (k := 101) (by decide) h
  have e : (toString i : Str).length = (toString i : String).length := by
    show (Str.ofString (toString i)).length = _
    exact PySem.ofString_length _
  rw [e]
  exact this
theorem Sm.numL {i : Int} (h : Sm i) : (numL i).length ≤ 102 := by
  have := h.len
  rw [len_tl] at this
  exact this
def partL (o : Int × Int) : List Nat := if o.2 = 1 then numL o.1 else numL o.1 ++ tl "/" ++ numL o.2
def powL (z : Str) (e : Int) : List Nat := if e = 0 then [] else if e = 1 then tl " " ++ tl z else tl " " ++ tl z ++ tl "^" ++ numL e
def termTx (t : Term) : List Nat := partL t.2 ++ powL "n" t.1.1 ++ powL "d" t.1.2
def termsTx (ts : List Term) : List Nat := if ts = [] then tl "0" else TL.joinL (tl " + ") (ts.map termTx)
def rowTx (r : Row) : List Nat := numL r.1 ++ tl ": " ++ termsTx r.2
def sumsTx (rs : List Row) : List Nat := TL.joinL (tl " | ") (rs.map rowTx)
structure TSm (t : Term) : Prop where
  a : Sm t.1.1
  b : Sm t.1.2
  c : Sm t.2.1
  d : Sm t.2.2
  p : 0 ≤ t.1.1
  f : 0 ≤ t.1.2
theorem part_len2 {o : Int × Int} (h1 : Sm o.1) (h2 : Sm o.2) : (partL o).length ≤ 210 := by
  have a := h1.numL
  have b := h2.numL
  have c : (tl "/").length = 1 := by decide +kernel
  unfold partL
  split
  · omega
  · rw [List.length_append, List.length_append]
    omega
theorem pow_len {z : Str} {e : Int} (hz : z.length ≤ 1) (h : Sm e) : (powL z e).length ≤ 110 := by
  have a := h.numL
  have c : (tl " ").length = 1 := by decide +kernel
  have c2 : (tl "^").length = 1 := by decide +kernel
  have l := len_tl z
  unfold powL
  split
  · exact Nat.zero_le _
  · split
    · rw [List.length_append]
      omega
    · rw [List.length_append, List.length_append, List.length_append]
      omega
theorem n_len : ("n" : Str).length ≤ 1 := by decide +kernel
theorem d_len : ("d" : Str).length ≤ 1 := by decide +kernel
theorem term_len {t : Term} (h : TSm t) : (termTx t).length ≤ 430 := by
  have a := part_len2 h.c h.d
  have b := pow_len n_len h.a
  have c := pow_len d_len h.b
  unfold termTx
  rw [List.length_append, List.length_append]
  omega
theorem joinL_le (s : List Nat) (m : Nat) : ∀ ls : List (List Nat), (∀ l ∈ ls, l.length ≤ m) → (TL.joinL s ls).length ≤ ls.length * (m + s.length)
  | ls, h => by
    refine Nat.le_trans (joinL_len s ls) ?_
    induction ls with
    | nil => exact Nat.zero_le _
    | cons l r ih =>
      have h1 := h l List.mem_cons_self
      have h2 := ih fun x hx => h x (List.mem_cons_of_mem _ hx)
      rw [List.map_cons, List.sum_cons, List.length_cons, Nat.succ_mul]
      omega
theorem terms_len {ts : List Term} (h : ∀ t ∈ ts, TSm t) (hl : ts.length ≤ 8) : (termsTx ts).length ≤ 3500 := by
  unfold termsTx
  split
  · have : (tl "0").length = 1 := by decide +kernel
    omega
  · have c : (tl " + ").length = 3 := by decide +kernel
    have := joinL_le (tl " + ") 430 (ts.map termTx) (fun l hl => by
      obtain ⟨t, ht, rfl⟩ := List.mem_map.mp hl
      exact term_len (h t ht))
    rw [List.length_map, c] at this
    have : ts.length * (430 + 3) ≤ 8 * 433 := Nat.mul_le_mul_right _ hl
    omega
theorem row_len {r : Row} (h0 : Sm r.1) (h : ∀ t ∈ r.2, TSm t) (hl : r.2.length ≤ 8) : (rowTx r).length ≤ 3700 := by
  have a := terms_len h hl
  have b := h0.numL
  have c : (tl ": ").length = 2 := by decide +kernel
  unfold rowTx
  rw [List.length_append, List.length_append]
  omega
/-- rows that can be written -/
def RSm (rs : List Row) : Prop := rs.length ≤ 8 ∧ ∀ r ∈ rs, Sm r.1 ∧ (∀ t ∈ r.2, TSm t) ∧ r.2.length ≤ 8
theorem sum_le_mul (m : Nat) : ∀ ls : List Str, (∀ z ∈ ls, z.length ≤ m) → (ls.map (·.length)).sum ≤ ls.length * m
  | [], _ => Nat.zero_le _
  | z :: r, h => by
    have h1 := h z List.mem_cons_self
    have h2 := sum_le_mul m r fun x hx => h x (List.mem_cons_of_mem _ hx)
    rw [List.map_cons, List.sum_cons, List.length_cons, Nat.succ_mul]
    omega
theorem join_tx {α : Type} (sep : Str) (f : α → List Nat) (xs : List α) : Txt.join sep (xs.map fun x => S (f x)) = S (TL.joinL (tl sep) (xs.map f)) := by
  have e := SX.join_S (tl sep) (xs.map f)
  have e1 : SX.S (tl sep) = sep := S_tl _
  rw [e1] at e
  have e2 : (xs.map f).map SX.S = xs.map fun x => S (f x) := by
    rw [List.map_map]
    rfl
  rw [e2] at e
  exact e
def spPartText : Sp := fun vs H Q _ => ∃ (v : V) (o : Int × Int), vs = [v] ∧ Rp H v (encP o) ∧ Sm o.1 ∧ Sm o.2 ∧ Q (.str (S (partL o))) H
def spPowText : Sp := fun vs H Q _ => ∃ (z : Str) (e : Int), vs = [.str z, .int e] ∧ z.length ≤ 1 ∧ Sm e ∧ Q (.str (S (powL z e))) H
def spTermText : Sp := fun vs H Q _ => ∃ (u v : V) (t : Term), vs = [u, v] ∧ Rp H u (encP t.1) ∧ Rp H v (encP t.2) ∧ TSm t ∧ Q (.str (S (termTx t))) H
def spTermsText : Sp := fun vs H Q _ => ∃ (l : Addr) (ts : List Term), vs = [.ref l] ∧ TermsAt H l ts ∧ (∀ t ∈ ts, TSm t) ∧ ts.length ≤ 8 ∧ ∀ H', Same H H' → Q (.str (S (termsTx ts))) H'
def spSumsText : Sp := fun vs H Q _ => ∃ (a : Addr) (rs : List Row) (ls : List Addr), vs = [.ref a] ∧ SumsAt H a rs ls ∧ RSm rs ∧ ∀ H', Same H H' → Q (.str (S (sumsTx rs))) H'
/-- growth_text(growth) -/
def growTx (t b f : Int) : List Nat := numL t ++ tl " by " ++ numL b ++ tl ", figures " ++ numL f
def spGrowText : Sp := fun vs H Q _ => (vs = [.non] ∧ Q (.str "none") H) ∨ ∃ (v : V) (t b f : Int), vs = [v] ∧ Rp H v (.tup [.int t, .int b, .int f]) ∧ Sm t ∧ Sm b ∧ Sm f ∧ Q (.str (S (growTx t b f))) H
theorem rows_sm {top deep wide : Int} {rs : List Row} (h : RowsOk top deep wide rs) (h1 : top ≤ 9) (h2 : deep ≤ 9) (h3 : wide < 2 ^ 100) : RSm rs := by
  refine ⟨by have := h.n4; omega, fun r hr => ?_⟩
  have hs := h.since r hr
  obtain ⟨ht, hl, _⟩ := h.terms r hr
  refine ⟨Sm.of (by omega), fun t htm => ?_, by omega⟩
  have k := ht t htm
  have k1 := k.p0; have k2 := k.p1; have k3 := k.f0; have k4 := k.f1; have k5 := k.o1; have k6 := k.u0; have k7 := k.u1
  refine ⟨Sm.of (by omega), Sm.of (by omega), Sm.of ?_, Sm.of (by omega), k1, k3⟩
  omega
/-! ### the signs of such texts are signs -/
def CpOk (l : List Nat) : Prop := ∀ c ∈ l, c < 0x110000
theorem cp_of (z : String) : CpOk (tl (Str.ofString z)) := by
  intro c hc
  rw [PySem.Str.ofString_eq_toList] at hc
  obtain ⟨x, _, rfl⟩ := List.mem_map.mp hc
  have := x.valid
  show x.val.toNat < 0x110000
  rcases this with h | ⟨_, h⟩
  · exact Nat.lt_trans h (by decide)
  · exact h
theorem cp_app {a b : List Nat} (h : CpOk a) (k : CpOk b) : CpOk (a ++ b) := fun c hc => (List.mem_append.mp hc).elim (h c) (k c)
theorem cp_nil : CpOk [] := fun _ h => by cases h
theorem cp_num (i : Int) : CpOk (numL i) := cp_of _
theorem cp_part (o : Int × Int) : CpOk (partL o) := by
  unfold partL
  split
  · exact cp_num _
  · exact cp_app (cp_app (cp_num _) (cp_of _)) (cp_num _)
theorem cp_pow (z : String) (e : Int) : CpOk (powL (Str.ofString z) e) := by
  unfold powL
  split
  · exact cp_nil
  · split
    · exact cp_app (cp_of _) (cp_of _)
    · exact cp_app (cp_app (cp_app (cp_of _) (cp_of _)) (cp_of _)) (cp_num _)
theorem cp_term (t : Term) : CpOk (termTx t) := cp_app (cp_app (cp_part _) (cp_pow _ _)) (cp_pow _ _)
theorem cp_str {l : List Nat} (h : CpOk l) : PyData.strOk (S l) = true := by
  unfold PyData.strOk
  rw [Array.all_eq_true']
  intro c hc
  have hc2 : c ∈ l := by simpa using hc
  simp only [decide_eq_true_eq]
  exact h c hc2
theorem dps_strs {K : PySem.W.Frag} {H : Hp} : ∀ zs : List Str, DpAll K H (zs.map V.str) (zs.map PyData.str)
  | [] => .nil
  | z :: r => .cons (.str z) (dps_strs r)
theorem depth_strs : ∀ zs : List Str, PyData.depthAll (zs.map PyData.str) = 0
  | [] => rfl
  | z :: r => by
    show max 0 (PyData.depthAll (r.map PyData.str)) = 0
    rw [depth_strs r]
    rfl
theorem lay_strs : ∀ zs : List Str, (∀ z ∈ zs, PyData.strOk z = true) → PyData.canLayAll0 (zs.map PyData.str) = true
  | [], _ => rfl
  | z :: r, h => by
    show (PyData.strOk z && PyData.canLayAll0 (r.map PyData.str)) = true
    rw [h z List.mem_cons_self, lay_strs r fun x hx => h x (List.mem_cons_of_mem _ hx)]
    rfl
theorem shaped_strs {zs : List Str} (h : ∀ z ∈ zs, PyData.strOk z = true) : SeqAt.shaped (.list (zs.map PyData.str)) = true := by
  unfold SeqAt.shaped
  have h1 : (PyData.list (zs.map PyData.str)).canLay0 = true := lay_strs zs h
  have h2 : (PyData.list (zs.map PyData.str)).depth ≤ 64 := by
    show PyData.depthAll (zs.map PyData.str) + 1 ≤ 64
    rw [depth_strs]
    decide
  rw [h1, decide_eq_true h2]
  rfl
/-! ### a comprehension over a list of pairs -/
theorem lc_list_map2 {K : PySem.W.Frag} {a : Addr} {xs : List V} {g : TG} {te : TE} {vs : List Nat} {σ : L2.St} {H1 : Hp} {D : Addr} {Qd : Hp → Prop} (ys : List V)
    (hlen : ys.length = xs.length) (hz : xs.length < 100000) (hS : H1 a = some (.lst xs)) (hD : H1 D = none)
    (he : ∀ (i : Nat) (x y : V) (H2 : Hp) (Nx : V → Hp → Prop), xs[i]? = some x → ys[i]? = some y → Same H1 H2 → (∀ H3, Same H2 H3 → Nx y H3) → g x (wipe σ vs) H2 fun σ2 H3 => wipe σ2 vs = wipe σ vs ∧ te σ2 H3 Nx)
    (hd : ∀ H', Same H1 H' → H' D = some (.lst ys) → Qd H') :
    ∃ W : Nat → Nat → Hp → Prop, (∃ m, W 0 m (upd H1 D (.lst []))) ∧ ∀ i m H, W i m H →
      ((Itl K a).stop i H ∧ Qd H) ∨ ((Itl K a).go i H ∧ ∃ Nx : Hp → Prop, (∀ H', Nx H' → ∃ m', m' < m ∧ W (i + 1) m' H') ∧ ∀ x H', (Itl K a).yld i H x H' → g x (wipe σ vs) H' fun σ2 H2 => wipe σ2 vs = wipe σ vs ∧ tYes σ2 H2 fun b H3 =>
        if b = true then te σ2 H3 fun y H4 => ∃ acc, H4 D = some (.lst acc) ∧ acc.length < sizeLine ∧ Nx (upd H4 D (.lst (acc ++ [y]))) else Nx H3) := by
  refine lc_list (xs := xs) (fun i H' => Same H1 H' ∧ H' D = some (.lst (ys.take i))) ⟨same_new hD, upd_same⟩ (fun i H' hi hP => SqL.of (hP.1 _ _ hS)) (fun i x H' hx hP => ?_) (fun H' hP => ?_)
  · obtain ⟨sm, hl⟩ := hP
    have hi : i < ys.length := by
      rw [hlen]
      obtain ⟨h, _⟩ := List.getElem?_eq_some_iff.mp hx
      exact h
    refine he i x ys[i] H' _ hx (List.getElem?_eq_getElem hi) sm fun H3 s3 => ?_
    refine ⟨ys.take i, s3 _ _ hl, ?_, Same.upd_new (sm.trans s3) hD, ?_⟩
    · rw [List.length_take]
      exact szl (by omega)
    · rw [upd_same, List.take_add_one, List.getElem?_eq_getElem hi]
      rfl
  · obtain ⟨sm, hl⟩ := hP
    rw [← hlen, List.take_length] at hl
    exact hd H' sm hl
theorem rpl_terms {H : Hp} {vs : List V} {ts : List Term} (h : RpL H vs (ts.map encT)) {i : Nat} {x : V} (hx : vs[i]? = some x) : ∃ t, ts[i]? = some t ∧ Rp H x (encT t) := by
  obtain ⟨d, hd, hr⟩ := h.get hx
  rw [List.getElem?_map] at hd
  cases ht : ts[i]? with
  | none => rw [ht] at hd; cases hd
  | some t =>
    rw [ht] at hd
    have : encT t = d := Option.some.inj hd
    exact ⟨t, rfl, this ▸ hr⟩
end OG

set_option Elab.async false
set_option linter.all false
set_option maxRecDepth 100000
set_option maxHeartbeats 4000000
namespace OG
open PySem PySem.Spec PyProof.Rows L2
/-! ### repr of data, where no repr is under way -/
def rRepr (K : PySem.W.Frag) : List V → Hp → VK → Prop := fun xs H Q => ∃ (a : Addr) (d : PyData), xs = [.ref a] ∧ Dp K H (.ref a) d ∧ d.showable = true ∧ d.hasDict = false ∧ d.depth ≤ 60 ∧ d.shown.length ≤ sizeLine ∧ Q (.str d.shown) H
theorem call_repr {X : Cx} (guard : X.A.guards = some []) (room : X.A.units + 64 < cLine) : CallR X (.builtin "repr") (rRepr X.K) := by
  intro pins sh st H args vals Qv inv rel ask
  obtain ⟨a, d, rfl, told, can, plain, deep, long, wish⟩ := ask
  obtain ⟨arg, rfl, rarg⟩ := rel.one
  obtain ⟨as, reads⟩ := Dp.reads inv d _ _ told rarg
  cases rarg
  refine repr_of_reads' reads can (fun z => by rw [plain] at z; cases z) guard (by omega) (fun _ _ e => e) (fun hp u tok keep => ?_) long
  exact ⟨.str d.shown, H, inv.kept keep, ⟨u, rfl⟩, wish⟩
/-! ### a def that is called where no repr is under way -/
def RunG (P : Program) (w : World) (K : PySem.W.Frag) (mg : Str → Option Value) (base : Heap) (k : Nat) (f : Addr) (fd : FuncData) (ps : List Str) (sp : Sp) : Prop :=
  ∀ (A : Around) (outer : List Env) (sh : Shared) (H : Hp) (args : Args) (us : List Value) (vs : List V) (Qv : VK) (Ev : XK), A.guards = some [] → Room k A → Env0 P w K mg base A outer sh H → BindsTo sh fd args (ps.zip us) → Vals vs us → sp vs H Qv Ev →
    codeAny (model P w) A (.call (.ref f) args) (CR CX0 outer P w H sh Qv Ev) sh
theorem runG_of {P : Program} {w : World} {K : PySem.W.Frag} {mg : Str → Option Value} {base : Heap} {x qual : Str} {st : Stmt} {f : Addr} {fd : FuncData} {N ps : List Str} {k : Nat} {sp : Sp}
    (F : Fun K x qual st f fd) (S : FnScope N ps (defScope st)) (len : ∀ vs H Qv Ev, sp vs H Qv Ev → vs.length = ps.length)
    (body : ∀ (cdv : Value) (A : Around) (outer : List Env) (sh : Shared) (H : Hp) (vs : List V) (Qv : VK) (Ev : XK), A.guards = some [] → Room k (A.deeper (envOfC qual (defScope st) sh.heap.objs.size f cdv)) → sp vs H Qv Ev →
      ∃ t, PSs (cxOf CX0 P w K mg base N qual (defScope st) f cdv A outer sh H Ev).nox (defBody st) t ∧ t { nx := fun _ H' => Qv .non H', rt := Qv } (start N vs) H) : RunG P w K mg base (k + 1) f fd ps sp := by
  intro A outer sh H args us vs Qv Ev guard room env binds rel ask
  obtain ⟨oc, od, kV, doc, pm, an, cdv, ct, osl, rfl, look, code⟩ := F.ex
  have many := len _ _ _ _ ask
  have written : K.In sh.heap := env.mod.kin.keeps fun b o e => (env.bs b o e).1
  have noLimit : sh.heap.NoLimit := env.mod.nolimit.keeps fun b o e => (env.bs b o e).1
  refine codeAny_call_function room.depth (written _ _ look) rfl S.co S.gen rfl (PySem.W.codeRec_of written code) (binds _ _ _ _ ?_)
  refine wpAny_newFunctionEnv_cells S.kind (fun pr hpr => ?_) fun env1 same sh1 fresh => ?_
  · rcases S.par pr.1 (List.of_mem_zip (a := pr.1) (b := pr.2) hpr).1 with kind | kind
    · exact .inl kind
    · exact .inr ⟨kind, PySem.W.cellsFrom_some _ _ _ (.inl kind)⟩
  subst same
  refine ⟨noLimit.keeps fresh.toInCall.keep, codeAny_func ?_⟩
  obtain ⟨t, told, holds⟩ := body cdv A outer sh H vs Qv Ev guard (room.deeper _) ask
  refine wpAny_mono (told.nox.run [] sh1 (start N vs) H _ (inv_start S room.hd env many rel fresh) holds) (fun flow sh2 done => ?_) fun _ _ bad => bad
  cases flow with
  | next =>
    obtain ⟨st2, H2, inv2, wish⟩ := done
    exact ⟨V.non, H2, inv2.os, inv2.bare, inv2.base, inv2.hok, rfl, wish⟩
  | ret u =>
    obtain ⟨v, st2, H2, inv2, rv, wish⟩ := done
    exact ⟨v, H2, inv2.os, inv2.bare, inv2.base, inv2.hok, rv, wish⟩
  | brk =>
    obtain ⟨_, _, _, bad⟩ := done
    exact bad.elim
  | cont =>
    obtain ⟨_, _, _, bad⟩ := done
    exact bad.elim
/-! ### the law is called where no repr is under way -/
abbrev scriptO (vs : List Value) : Obj := { cls := .type "list", data := .seq vs.toArray }
abbrev LawEnds (sh : Shared) : Result → Shared → Prop := fun r sh' => r = .ok (.ret (.bool true)) ∧ OldK sh.heap sh'.heap ∧ sh'.os = sh.os ∧ AllBare sh'.gens
section
variable {P : Program} {w : World} {K : PySem.W.Frag} {mg mb : Str → Option Value} {k : Nat} {fa a : Addr} {fd : FuncData} {x : Str} {sp : Sp} {sh : Shared} {vs : List Value} {ns : List Int}
/-- from a heap in which at most the script is tracked -/
theorem law_from (H : Hp) (only : Only H) (lone : ∀ b u, H b = some u → b = a) (apart : ∀ u, H a = some u → K.lookup a = none) (hok : HOk P w H sh.heap)
    (written : K.In sh.heap) (globals : sh.heap.Ns mainGlobals mg) (blt : sh.heap.Ns builtinsNs mb) (names : ∀ y : Str, y ≠ "__name__" → mb y = bootBuiltins y) (noLimit : sh.heap.NoLimit) (noGens : sh.gens = #[])
    (scr : sh.heap.get? a = some (scriptO vs)) (room : Room k callerA) (runs : ∀ base : Heap, K.In base → base.Ns mainGlobals mg → RunG P w K mg base k fa fd [x] sp)
    (binds : ∀ (s : Shared) (u : Value), BindsTo s fd ⟨[u], []⟩ [(x, u)]) (ask : sp [.ref a] H (fun v _ => v = .bl true) fun _ _ _ => False) :
    codeAny (model P w) callerA (.call (.ref fa) ⟨[.ref a], []⟩) (LawEnds sh) sh := by
  have untracked : ∀ {b : Addr}, b ≠ a → H b = none := fun {b} ne => by
    cases e : H b with
    | none => rfl
    | some u => exact absurd (lone b u e) ne
  have seen : ∀ {b : Addr} {m : Str → Option Value}, sh.heap.Ns b m → (hidT sh.heap H).Ns b m := fun {b m} ⟨o, es, ep, e, dt, r⟩ =>
    ⟨o, es, ep, hidT_get e (untracked fun z => by
      subst z
      rw [scr] at e
      cases e
      cases dt), dt, r⟩
  have writtenB : K.In (hidT sh.heap H) := fun b o e => hidT_get (written b o e) (by
    by_cases z : b = a
    · subst z
      cases t : H b with
      | none => rfl
      | some u =>
        rw [apart u t] at e
        cases e
    · exact untracked z)
  obtain ⟨mc, lim1, lim2⟩ := noLimit
  have env : Env0 P w K mg (hidT sh.heap H) callerA [] sh H :=
    ⟨rfl, ⟨writtenB, seen globals, ⟨mb, seen blt, names⟩, ⟨mc, seen lim1, lim2⟩⟩, fun b o e => of_hidT e, Nat.le_of_eq (hidT_size _ _), trivial, fun b hb => absurd (show b ∈ ([] : List Addr) from hb) (by simp), hok, .of_eq noGens⟩
  refine codeAny_mono (runs _ writtenB (seen globals) callerA [] sh H ⟨[.ref a], []⟩ [.ref a] [.ref a] _ _ rfl room env (binds sh (.ref a)) (.cons rfl .nil) ask) fun r sh2 ended => ?_
  match r, ended with
  | .ok (.ret u), ended =>
    obtain ⟨v, H2, os, bare, un, hok2, rv, isTrue⟩ := ended
    have isTrue' : v = .bl true := isTrue
    subst isTrue'
    cases rv
    refine ⟨rfl, OldK.of_keep fun b o e => ?_, os, bare⟩
    rcases only b with z | ⟨ob, xs, z⟩
    · exact un.keep b o e z (fun m => absurd (show b ∈ ([] : List Addr) from m) (by simp)) (by simp)
    · have before := (hok b _ z).1
      have behind := (hok2 b _ (un.frzs b ob _ z)).1
      rw [e] at before
      cases before
      exact behind
  | .ok .next, ended => exact ended.elim
  | .ok .brk, ended => exact ended.elim
  | .ok .cont, ended => exact ended.elim
  | .error e, ended => exact ended.elim
theorem law_callG (written : K.In sh.heap) (globals : sh.heap.Ns mainGlobals mg) (blt : sh.heap.Ns builtinsNs mb) (names : ∀ y : Str, y ≠ "__name__" → mb y = bootBuiltins y) (noLimit : sh.heap.NoLimit) (noGens : sh.gens = #[])
    (scr : sh.heap.get? a = some (scriptO vs)) (whole : IntsAre vs ns) (short : ns.length ≤ sizeLine) (room : Room k callerA) (runs : ∀ base : Heap, K.In base → base.Ns mainGlobals mg → RunG P w K mg base k fa fd [x] sp)
    (binds : ∀ (s : Shared) (u : Value), BindsTo s fd ⟨[u], []⟩ [(x, u)]) (ask : ∀ H : Hp, Only H → SqL K H a (ns.map V.int) → sp [.ref a] H (fun v _ => v = .bl true) fun _ _ _ => False) :
    codeAny (model P w) callerA (.call (.ref fa) ⟨[.ref a], []⟩) (LawEnds sh) sh := by
  have rel := vals_ints whole
  have long := whole.length
  cases inK : K.lookup a with
  | some o =>
    have same := written a o inK
    rw [scr] at same
    cases same
    have o1 : Only (fun _ => none) := fun _ => .inl rfl
    refine law_from (fun _ => none) o1 (fun b u z => nomatch (show (none : Option HO) = some u from z)) (fun u z => nomatch (show (none : Option HO) = some u from z)) (fun b u z => nomatch (show (none : Option HO) = some u from z)) written globals blt names noLimit noGens scr room runs binds (ask _ o1 (.inr ⟨_, vs.toArray, _, inK, rfl, rfl, rfl, ?_, ?_⟩))
    · rw [List.size_toArray, long]
      exact short
    · simpa using rel
  | none =>
    let H0 : Hp := fun b => if b = a then some (.frz (scriptO vs) (.lst (ns.map V.int))) else none
    have at0 : H0 a = some (.frz (scriptO vs) (.lst (ns.map V.int))) := if_pos rfl
    have out0 : ∀ b u, H0 b = some u → b = a ∧ u = .frz (scriptO vs) (.lst (ns.map V.int)) := fun b u e => by
      by_cases z : b = a
      · subst z
        rw [at0] at e
        exact ⟨rfl, (Option.some.inj e).symm⟩
      · have e2 : H0 b = none := if_neg z
        rw [e2] at e
        cases e
    have o1 : Only H0 := fun b => by
      cases e : H0 b with
      | none => exact .inl rfl
      | some u => exact .inr ⟨_, _, by rw [(out0 b u e).2]⟩
    refine law_from H0 o1 (fun b u e => (out0 b u e).1) (fun _ _ => inK) (fun b u e => ?_) written globals blt names noLimit noGens scr room runs binds (ask H0 o1 (.inl (.inr ⟨_, at0⟩)))
    obtain ⟨rfl, rfl⟩ := out0 b u e
    exact ⟨scr, by rw [List.length_map]; exact short, vs, _, rel, scr⟩
end
theorem walk_ofG {l : PySem.W.OpenLaw} {n k : Nat} {q : Program} {loose : List Str} {XP : (Str → Option Value) → Heap → Prop} {YP : World → Heap → Prop} {d : DefRec} {K : Params → PySem.W.Frag} {sp : World → Sp} {x : Str}
    (most : l.most = some n) (fits : n ≤ sizeLine) (plain : d.params.defaults = []) (room : Room k callerA) (known : ∀ (w : World) (h : Heap), YP w h → (K w.params).In h)
    (F : ∀ (w : World) (mg : Str → Option Value) (fa : Addr) (h : Heap), (K w.params).In h → h.Ns mainGlobals mg → mg d.name = some (.ref fa) →
      ∃ fd : FuncData, (∀ (s : Shared) (u : Value), BindsTo s fd ⟨[u], []⟩ [(x, u)]) ∧ ∀ base : Heap, (K w.params).In base → base.Ns mainGlobals mg → RunG l.prog w (K w.params) mg base k fa fd [x] (sp w))
    (ask : ∀ (w : World) (H : Hp) (a : Addr) (ns : List Int), ns.length ≤ n → Only H → SqL (K w.params) H a (ns.map V.int) → sp w [.ref a] H (fun v _ => v = .bl true) fun _ _ _ => False) :
    PySem.W.WalkO q loose XP YP l.row.toRowW d [] (fun f vs => PySem.call f vs) := by
  refine Att.attach_call most plain fun w _ sh mg _ fa _ _ _ _ a vs ns ground holds _ _ _ isLaw scr whole len noGens => ?_
  have written := known w _ holds
  obtain ⟨fd, binds, runs⟩ := F w mg fa _ written ground.T.g isLaw
  exact law_callG written ground.T.g ground.T.b ground.T.builtins ground.T.nolimit noGens scr whole (Nat.le_trans len fits) room runs binds fun H only sq => ask w H a ns len only sq
end OG

set_option Elab.async false
set_option linter.all false
set_option maxRecDepth 100000
set_option maxHeartbeats 4000000
namespace OG
open PySem PySem.Spec PyProof.Rows L2
/-! ### two values that stand for one datum, tuples of the module's top among them -/
theorem sqt_keeps {K : PySem.W.Frag} {H H' : Hp} {a : Addr} {xs : List V} (h : SqT K H a xs) (s : Same H H') : SqT K H' a xs := by
  rcases h with (h | ⟨o, h⟩) | h
  · exact .inl (.inl (s _ _ h))
  · exact .inl (.inr ⟨o, s _ _ h⟩)
  · exact .inr h
theorem ty_sqt {K : PySem.W.Frag} {H : Hp} {a : Addr} {xs : List V} (h : SqT K H a xs) : TyX K H (.ref a) (.type "tuple") := by
  rcases h with (h | ⟨o, h⟩) | ⟨o, its, n, h1, h2, _⟩
  · exact .base (.tup h)
  · exact .fTuple h
  · exact .kTuple h1 h2
def Eq3 (K : PySem.W.Frag) (H : Hp) : Nat → V → V → Prop
  | 0, v, w => v = w ∧ flatV v = true
  | n + 1, v, w => (v = w ∧ flatV v = true) ∨
    (∃ (a b : Addr) (vs ws : List V), v = .ref a ∧ w = .ref b ∧ ((SqT K H a vs ∧ SqT K H b ws) ∨ (H a = some (.lst vs) ∧ H b = some (.lst ws))) ∧ vs.length = ws.length ∧ vs.length < 100000 ∧
      ∀ (i : Nat) x y, vs[i]? = some x → ws[i]? = some y → Eq3 K H n x y)
theorem Eq3.same {K : PySem.W.Frag} {H H' : Hp} (s : Same H H') : ∀ {n : Nat} {v w : V}, Eq3 K H n v w → Eq3 K H' n v w
  | 0, _, _, h => h
  | n + 1, v, w, h => by
    rcases h with h | ⟨a, b, vs, ws, e1, e2, h, hl, hz, q⟩
    · exact .inl h
    · refine .inr ⟨a, b, vs, ws, e1, e2, ?_, hl, hz, fun i x y hx hy => Eq3.same s (q i x y hx hy)⟩
      rcases h with ⟨k1, k2⟩ | ⟨k1, k2⟩
      · exact .inl ⟨sqt_keeps k1 s, sqt_keeps k2 s⟩
      · exact .inr ⟨s _ _ k1, s _ _ k2⟩
theorem Eq3.flat {K : PySem.W.Frag} {H : Hp} {v : V} (h : flatV v = true) : ∀ n, Eq3 K H n v v
  | 0 => ⟨rfl, h⟩
  | n + 1 => .inl ⟨rfl, h⟩
def spSame3 (K : PySem.W.Frag) (n : Nat) : Sp := fun vs H Q _ => ∃ v w : V, vs = [v, w] ∧ Eq3 K H n v w ∧ ∀ H', Same H H' → Q (.bl true) H'
def prevS3 (K : PySem.W.Frag) : Nat → Sp
  | 0 => fun _ _ _ _ => False
  | n + 1 => spSame3 K n
/-- two tuples of like flat values -/
theorem eq3_tups {K : PySem.W.Frag} {H : Hp} {p q : Addr} {vs : List V} (n : Nat) (hp : SqT K H p vs) (hq : SqT K H q vs) (hf : vs.all flatV = true) (hl : vs.length < 100000) : Eq3 K H (n + 1) (.ref p) (.ref q) :=
  .inr ⟨p, q, vs, vs, rfl, rfl, .inl ⟨hp, hq⟩, rfl, hl, fun k x y hx hy => by
    have e : x = y := Option.some.inj (hx.symm.trans hy)
    subst e
    exact Eq3.flat (List.all_eq_true.mp hf x (List.mem_of_getElem? hx)) n⟩
/-- two lists of one thing each -/
theorem eq3_one {K : PySem.W.Frag} {H : Hp} {p q : Addr} {x y : V} (n : Nat) (hp : H p = some (.lst [x])) (hq : H q = some (.lst [y])) (h : Eq3 K H n x y) : Eq3 K H (n + 1) (.ref p) (.ref q) :=
  .inr ⟨p, q, [x], [y], rfl, rfl, .inr ⟨hp, hq⟩, rfl, by show 1 < 100000; decide, fun k u v hu hv => by
    match k, hu, hv with
    | 0, hu, hv =>
      have e1 : x = u := Option.some.inj hu
      have e2 : y = v := Option.some.inj hv
      subst e1
      subst e2
      exact h
    | k + 1, hu, _ => simp at hu⟩
end OG

set_option Elab.async false
set_option linter.all false
set_option maxRecDepth 100000
set_option maxHeartbeats 4000000
namespace OG
open PySem PySem.Spec PyProof.Rows L2
/-! ### lowest terms -/
theorem gcd_mod (x y : Int) : Int.gcd y (x % y) = Int.gcd x y := by
  have e : x % y = x - y * (x / y) := Int.emod_def x y
  refine Nat.dvd_antisymm ?_ ?_
  · refine Int.natCast_dvd_natCast.mp (Int.dvd_coe_gcd ?_ (Int.gcd_dvd_left _ _))
    have h1 := Int.gcd_dvd_left y (x % y)
    have h2 := Int.gcd_dvd_right y (x % y)
    have h3 : x = x % y + y * (x / y) := by omega
    rw [h3]
    exact Int.dvd_add (by rw [← h3]; exact h2) (Int.dvd_mul_of_dvd_left (by rw [← h3]; exact h1))
  · refine Int.natCast_dvd_natCast.mp (Int.dvd_coe_gcd (Int.gcd_dvd_right _ _) ?_)
    rw [e]
    exact Int.dvd_sub (Int.gcd_dvd_left _ _) (Int.dvd_mul_of_dvd_left (Int.gcd_dvd_right _ _))
theorem low_facts {o u : Int} (h : 1 ≤ u) : let g : Int := (Int.gcd o u : Nat); 0 < g ∧ o = g * (lowOf o u).1 ∧ u = g * (lowOf o u).2 ∧ Int.gcd (lowOf o u).1 (lowOf o u).2 = 1 ∧ 1 ≤ (lowOf o u).2 := by
  intro g
  have hp : 0 < Int.gcd o u := Int.gcd_pos_of_ne_zero_right _ (by omega)
  have h1 : o = g * (lowOf o u).1 := (Int.mul_ediv_cancel' (Int.gcd_dvd_left o u)).symm
  have h2 : u = g * (lowOf o u).2 := (Int.mul_ediv_cancel' (Int.gcd_dvd_right o u)).symm
  have hg : 0 < g := Int.ofNat_lt.mpr hp
  refine ⟨hg, h1, h2, Int.gcd_ediv_gcd_ediv_gcd hp, ?_⟩
  have : 0 < g * (lowOf o u).2 := by rw [← h2]; omega
  exact Int.pos_of_mul_pos_right this hg
theorem low_cross {o u : Int} (h : 1 ≤ u) : (lowOf o u).1 * u = o * (lowOf o u).2 := by
  obtain ⟨_, h1, h2, _⟩ := low_facts (o := o) h
  grind
theorem cop_dvd {a b c : Int} (h : Int.gcd a b = 1) (k : b ∣ a * c) : b ∣ c := by
  have h2 : Nat.Coprime b.natAbs a.natAbs := by
    show Nat.gcd b.natAbs a.natAbs = 1
    rw [Nat.gcd_comm]
    exact h
  have k2 : b.natAbs ∣ a.natAbs * c.natAbs := by
    rw [← Int.natAbs_mul]
    exact Int.natAbs_dvd_natAbs.mpr k
  exact Int.natAbs_dvd_natAbs.mp (h2.dvd_of_dvd_mul_left k2)
/-- two parts in lowest terms that are alike are the same -/
theorem low_uniq {a b c d : Int} (h1 : Int.gcd a b = 1) (h2 : Int.gcd c d = 1) (hb : 1 ≤ b) (hd : 1 ≤ d) (e : a * d = c * b) : a = c ∧ b = d := by
  have k1 : b ∣ d := cop_dvd h1 ⟨c, by rw [e, Int.mul_comm]⟩
  have k2 : d ∣ b := cop_dvd h2 ⟨a, by rw [← e, Int.mul_comm]⟩
  have e2 : b = d := Int.dvd_antisymm (by omega) (by omega) k1 k2
  subst e2
  exact ⟨Int.eq_of_mul_eq_mul_right (by omega) e, rfl⟩
theorem low_eq {o u o' u' : Int} (h : 1 ≤ u) (h' : 1 ≤ u') (e : o * u' = o' * u) : lowOf o u = lowOf o' u' := by
  obtain ⟨g1, a1, a2, a3, a4⟩ := low_facts (o := o) h
  obtain ⟨g2, b1, b2, b3, b4⟩ := low_facts (o := o') h'
  have c1 := low_cross (o := o) h
  have c2 := low_cross (o := o') h'
  have e2 : (lowOf o u).1 * (lowOf o' u').2 = (lowOf o' u').1 * (lowOf o u).2 := by
    have hz : u * u' ≠ 0 := Int.mul_ne_zero (by omega) (by omega)
    refine Int.eq_of_mul_eq_mul_right hz ?_
    grind
  obtain ⟨x1, x2⟩ := low_uniq a3 b3 a4 b4 e2
  exact Prod.ext x1 x2
theorem low_step {o1 u1 O U m u : Int} (hU : 1 ≤ U) (hu : 1 ≤ u) : lowOf ((lowOf O U).1 * (lowOf m u).2 + (lowOf m u).1 * (lowOf O U).2) ((lowOf O U).2 * (lowOf m u).2) = lowOf (O * u + m * U) (U * u) := by
  obtain ⟨_, _, _, _, a4⟩ := low_facts (o := O) hU
  obtain ⟨_, _, _, _, b4⟩ := low_facts (o := m) hu
  have c1 := low_cross (o := O) hU
  have c2 := low_cross (o := m) hu
  have p1 : 0 < (lowOf O U).2 * (lowOf m u).2 := Int.mul_pos (by omega) (by omega)
  have p2 : 0 < U * u := Int.mul_pos (by omega) (by omega)
  refine low_eq (by omega) (by omega) ?_
  grind
theorem low_le {o u : Int} (h : 1 ≤ u) : (lowOf o u).2 ≤ u ∧ (lowOf o u).1.natAbs ≤ o.natAbs := by
  obtain ⟨g1, a1, a2, a3, a4⟩ := low_facts (o := o) h
  have hg : 1 ≤ ((Int.gcd o u : Nat) : Int) := g1
  constructor
  · have : 1 * (lowOf o u).2 ≤ ((Int.gcd o u : Nat) : Int) * (lowOf o u).2 := Int.mul_le_mul_of_nonneg_right hg (by omega)
    omega
  · have e : o.natAbs = (Int.gcd o u) * (lowOf o u).1.natAbs := by
      have := congrArg Int.natAbs a1
      rw [Int.natAbs_mul, Int.natAbs_natCast] at this
      exact this
    have : 1 * (lowOf o u).1.natAbs ≤ (Int.gcd o u) * (lowOf o u).1.natAbs := Nat.mul_le_mul_right _ (by omega)
    omega
theorem low_01 : lowOf 0 1 = (0, 1) := by decide +kernel
/-! ### which row a size is in -/
def rowIx (rs : List Row) (n : Int) : Nat := (rs.takeWhile fun r => decide (r.1 ≤ n)).length
theorem rowIx_iff {n : Int} : ∀ {rs : List Row}, (rs.map (·.1)).Pairwise (· < ·) → ∀ {j : Nat} {r : Row}, rs[j]? = some r → (r.1 ≤ n ↔ j < rowIx rs n)
  | [], _, j, r, h => by simp at h
  | x :: xs, hp, j, r, h => by
    have hp2 := List.pairwise_cons.mp hp
    unfold rowIx
    by_cases hx : x.1 ≤ n
    · rw [List.takeWhile_cons_of_pos (by simpa using hx), List.length_cons]
      cases j with
      | zero =>
        have e := Option.some.inj h
        subst e
        exact ⟨fun _ => Nat.succ_pos _, fun _ => hx⟩
      | succ j =>
        have ih := rowIx_iff (n := n) (rs := xs) hp2.2 (j := j) (r := r) h
        rw [ih]
        unfold rowIx
        omega
    · rw [List.takeWhile_cons_of_neg (by simpa using hx), List.length_nil]
      refine ⟨fun hr => ?_, fun z => absurd z (Nat.not_lt_zero _)⟩
      cases j with
      | zero =>
        have e := Option.some.inj h
        subst e
        exact absurd hr hx
      | succ j =>
        have hlt : x.1 < r.1 := hp2.1 r.1 (List.mem_map.mpr ⟨r, List.mem_of_getElem? h, rfl⟩)
        omega
theorem rowIx_le (rs : List Row) (n : Int) : rowIx rs n ≤ rs.length := (List.takeWhile_sublist _).length_le
/-- rows that sums may have -/
structure ROk (rs : List Row) : Prop where
  first : (rs.head?.map (·.1)) = some 0
  rises : (rs.map (·.1)).Pairwise (· < ·)
  short : rs.length ≤ 8
  terms : ∀ r ∈ rs, r.2.length ≤ 8 ∧ ∀ t ∈ r.2, 0 ≤ t.1.1 ∧ t.1.1 ≤ 9 ∧ 0 ≤ t.1.2 ∧ t.1.2 ≤ 9 ∧ t.2.1.natAbs < 2 ^ 101 ∧ 1 ≤ t.2.2 ∧ t.2.2 ≤ 2
theorem ROk.pos {rs : List Row} (h : ROk rs) {n : Int} (hn : 0 ≤ n) : 0 < rowIx rs n := by
  cases rs with
  | nil => have := h.first; cases this
  | cons r rest =>
    have e : r.1 = 0 := Option.some.inj h.first
    exact (rowIx_iff h.rises (j := 0) (r := r) rfl).mp (by omega)
def rowTs (rs : List Row) (n : Int) : List Term := ((rs[rowIx rs n - 1]?).map (·.2)).getD []
theorem rowTs_of {rs : List Row} {n : Int} {r : Row} (h : rs[rowIx rs n - 1]? = some r) : rowTs rs n = r.2 := by
  unfold rowTs
  rw [h]
  rfl
/-! ### what terms come to -/
abbrev figs (n : Int) : Nat := Builtin.Int.intBits n
def moreOf (n : Int) (t : Term) : Int := t.2.1 * n ^ t.1.1.toNat * (figs n : Int) ^ t.1.2.toNat
def addT (n : Int) (acc : Int × Int) (t : Term) : Int × Int := (acc.1 * t.2.2 + moreOf n t * acc.2, acc.2 * t.2.2)
def sumUp (n : Int) (ts : List Term) : Int × Int := ts.foldl (addT n) (0, 1)
def worthOf (rs : List Row) (n : Int) : Int × Int := lowOf (sumUp n (rowTs rs n)).1 (sumUp n (rowTs rs n)).2
theorem figs_le {n : Int} (h : n.natAbs < 2 ^ 100) : figs n ≤ 101 := by
  show Builtin.Int.intBits n ≤ 101
  unfold Builtin.Int.intBits
  split
  · omega
  · have h0 : 0 < 100 := by decide
    have := PySem.Flt.log2_lt_of h0 h
    omega
theorem pow_abs (b : Int) (k : Nat) {m : Nat} (h : b.natAbs < 2 ^ m) : (b ^ k).natAbs < 2 ^ (m * k + 1) := by
  rw [Int.natAbs_pow, Nat.pow_succ]
  have h1 : b.natAbs ^ k ≤ (2 ^ m) ^ k := Nat.pow_le_pow_left (Nat.le_of_lt h) k
  rw [← Nat.pow_mul] at h1
  have h2 : 0 < 2 ^ (m * k) := Nat.pow_pos (by decide)
  omega
def PartAt (K : PySem.W.Frag) (H : Hp) (v : V) (o : Int × Int) : Prop := ∃ a, v = .ref a ∧ SqT K H a [.int o.1, .int o.2]
theorem PartAt.of_rp {K : PySem.W.Frag} {H : Hp} {v : V} {o : Int × Int} (h : Rp H v (encP o)) : PartAt K H v o := by
  obtain ⟨a, v1, v2, rfl, ha, rfl, rfl⟩ := rp_t2 h
  exact ⟨a, rfl, SqT.of ha⟩
theorem PartAt.keeps {K : PySem.W.Frag} {H H' : Hp} {v : V} {o : Int × Int} (h : PartAt K H v o) (s : Same H H') : PartAt K H' v o := by
  obtain ⟨a, e, h⟩ := h
  exact ⟨a, e, sqt_keeps h s⟩
theorem ip_mulW {X : Cx} : PIp X .Mult (ipC CMulW fun i j => i * j) := by
  intro pins sh st H x y v u Qv inv rx ry ask
  obtain ⟨i, j, rfl, rfl, wide, wish⟩ := ask
  obtain ⟨t, rfl⟩ := rx
  obtain ⟨t', rfl⟩ := ry
  exact imul_int ⟨.int _, H, inv.tok _, ⟨_, rfl⟩, wish⟩ wide.ok
/-! ### promises -/
def spPowW : Sp := fun vs H Q _ => ∃ (b : Int) (e : Nat), vs = [.int b, .int e] ∧ b.natAbs < 2 ^ 101 ∧ e ≤ 100 ∧ Q (.int (b ^ e)) H
def spGreatest : Sp := fun vs H Q _ => ∃ a b : Int, vs = [.int a, .int b] ∧ 0 ≤ b ∧ Q (.int (Int.gcd a b : Nat)) H
def spPartOf : Sp := spLowest
def spPartSum (K : PySem.W.Frag) : Sp := fun vs H Q _ => ∃ (u v : V) (o p : Int × Int), vs = [u, v] ∧ PartAt K H u o ∧ PartAt K H v p ∧ 1 ≤ o.2 ∧ o.2 ≤ 1000000 ∧ 1 ≤ p.2 ∧ p.2 ≤ 1000000 ∧ ∀ w H', Same H H' → Rp H' w (encP (lowOf (o.1 * p.2 + p.1 * o.2) (o.2 * p.2))) → Q w H'
def spRowAt : Sp := fun vs H Q _ => ∃ (S : Addr) (rs : List Row) (ls : List Addr) (n : Int), vs = [.ref S, .int n] ∧ SumsAt H S rs ls ∧ ROk rs ∧ 0 ≤ n ∧ Q (.int ((rowIx rs n - 1 : Nat) : Int)) H
def spWorth (K : PySem.W.Frag) : Sp := fun vs H Q _ => ∃ (S : Addr) (rs : List Row) (ls : List Addr) (n : Int), vs = [.ref S, .int n] ∧ SumsAt H S rs ls ∧ ROk rs ∧ 0 ≤ n ∧ n.natAbs < 2 ^ 100 ∧ ∀ v H', Same H H' → PartAt K H' v (worthOf rs n) → Q v H'
def spLawAt : Sp := fun vs H Q _ => ∃ (S : Addr) (rs : List Row) (ls : List Addr) (n : Int), vs = [.ref S, .int n] ∧ SumsAt H S rs ls ∧ ROk rs ∧ 0 ≤ n ∧ n.natAbs < 2 ^ 100 ∧ ∀ v H', Same H H' → Rp H' v (encP (worthOf rs n)) → Q v H'
theorem sum_under (n : Int) : ∀ (ts : List Term) (acc : Int × Int), (∀ t ∈ ts, 1 ≤ t.2.2 ∧ t.2.2 ≤ 2) → 1 ≤ acc.2 → 1 ≤ (ts.foldl (addT n) acc).2 ∧ (ts.foldl (addT n) acc).2 ≤ acc.2 * 2 ^ ts.length
  | [], acc, _, h => ⟨h, by show acc.2 ≤ acc.2 * 2 ^ 0; omega⟩
  | t :: r, acc, ht, h => by
    have h1 := ht t List.mem_cons_self
    have hp : 0 < acc.2 * t.2.2 := Int.mul_pos (by omega) (by omega)
    obtain ⟨i1, i2⟩ := sum_under n r (addT n acc t) (fun x hx => ht x (List.mem_cons_of_mem _ hx)) (by show 1 ≤ acc.2 * t.2.2; omega)
    refine ⟨i1, Int.le_trans i2 ?_⟩
    show acc.2 * t.2.2 * 2 ^ r.length ≤ acc.2 * 2 ^ (r.length + 1)
    rw [Int.pow_succ, Int.mul_assoc]
    refine Int.mul_le_mul_of_nonneg_left ?_ (by omega)
    rw [Int.mul_comm]
    exact Int.mul_le_mul_of_nonneg_left h1.2 (Int.le_of_lt (Int.pow_pos (by decide)))
end OG

set_option Elab.async false
set_option linter.all false
set_option maxRecDepth 100000
set_option maxHeartbeats 4000000
namespace OG
open PySem PySem.Spec PyProof.Rows L2
/-! ### sums as data, for repr -/
def pyT (t : Term) : PyData := .tuple [.tuple [.int t.1.1, .int t.1.2], .tuple [.int t.2.1, .int t.2.2]]
def pyR (r : Row) : PyData := .tuple [.int r.1, .list (r.2.map pyT)]
def pyS (rs : List Row) : PyData := .list (rs.map pyR)
theorem dp_terms {K : PySem.W.Frag} {H : Hp} : ∀ (ts : List Term) (us : List V), RpL H us (ts.map encT) → DpAll K H us (ts.map pyT)
  | [], _, h => by rw [show _ = [] from h]; exact .nil
  | t :: r, _, h => by
    obtain ⟨v, vs, rfl, hv, ht⟩ := h
    exact .cons (rp_dp (encT t) v hv) (dp_terms r vs ht)
theorem dp_rows {K : PySem.W.Frag} {H : Hp} {us : List V} {rs : List Row} {ls : List Addr} (h : RowsAt H us rs ls) : DpAll K H us (rs.map pyR) := by
  induction h with
  | nil => exact .nil
  | cons h t ih =>
    obtain ⟨a, rfl, ha, ws, hl, hW⟩ := h
    exact .cons (.tup (SqT.of ha) (.cons (.int _) (.cons (.lst (SqL.of hl) (dp_terms _ _ hW)) .nil))) ih
theorem dp_sums {K : PySem.W.Frag} {H : Hp} {S : Addr} {rs : List Row} {ls : List Addr} (h : SumsAt H S rs ls) : Dp K H (.ref S) (pyS rs) := by
  obtain ⟨us, h1, h2⟩ := h
  exact .lst (SqL.of h1) (dp_rows h2)
theorem show_int {i : Int} (h : Sm i) : (PyData.int i).showable = true ∧ (PyData.int i).leavesShort 110 = true := by
  refine ⟨decide_eq_true h.log, decide_eq_true ?_⟩
  have := h.len
  exact Nat.le_trans this (by decide)
theorem py_terms : ∀ (ts : List Term), (∀ t ∈ ts, TSm t) → PyData.showableAll (ts.map pyT) = true ∧ PyData.hasDictAll (ts.map pyT) = false ∧ PyData.depthAll (ts.map pyT) ≤ 2 ∧ PyData.leavesShortAll 110 (ts.map pyT) = true ∧ PyData.bulkAll (ts.map pyT) ≤ 7 * ts.length
  | [], _ => ⟨rfl, rfl, Nat.zero_le _, rfl, Nat.le_refl _⟩
  | t :: r, h => by
    obtain ⟨a1, a2, a3, a4, a5⟩ := py_terms r fun x hx => h x (List.mem_cons_of_mem _ hx)
    have ht := h t List.mem_cons_self
    obtain ⟨b1, b2⟩ := show_int ht.a
    obtain ⟨c1, c2⟩ := show_int ht.b
    obtain ⟨d1, d2⟩ := show_int ht.c
    obtain ⟨e1, e2⟩ := show_int ht.d
    refine ⟨?_, ?_, ?_, ?_, ?_⟩
    · show (((PyData.int t.1.1).showable && ((PyData.int t.1.2).showable && true)) && (((PyData.int t.2.1).showable && ((PyData.int t.2.2).showable && true)) && true) && PyData.showableAll (r.map pyT)) = true
      rw [b1, c1, d1, e1, a1]
      rfl
    · show (false || PyData.hasDictAll (r.map pyT)) = false
      rw [a2]
      rfl
    · show max 2 (PyData.depthAll (r.map pyT)) ≤ 2
      omega
    · show (((PyData.int t.1.1).leavesShort 110 && ((PyData.int t.1.2).leavesShort 110 && true)) && (((PyData.int t.2.1).leavesShort 110 && ((PyData.int t.2.2).leavesShort 110 && true)) && true) && PyData.leavesShortAll 110 (r.map pyT)) = true
      rw [b2, c2, d2, e2, a4]
      rfl
    · show 6 + 1 + PyData.bulkAll (r.map pyT) ≤ 7 * (r.length + 1)
      omega
theorem py_rows : ∀ (rs : List Row), (∀ r ∈ rs, Sm r.1 ∧ (∀ t ∈ r.2, TSm t) ∧ r.2.length ≤ 8) → PyData.showableAll (rs.map pyR) = true ∧ PyData.hasDictAll (rs.map pyR) = false ∧ PyData.depthAll (rs.map pyR) ≤ 4 ∧ PyData.leavesShortAll 110 (rs.map pyR) = true ∧ PyData.bulkAll (rs.map pyR) ≤ 60 * rs.length
  | [], _ => ⟨rfl, rfl, Nat.zero_le _, rfl, Nat.le_refl _⟩
  | x :: r, h => by
    obtain ⟨a1, a2, a3, a4, a5⟩ := py_rows r fun y hy => h y (List.mem_cons_of_mem _ hy)
    obtain ⟨h1, h2, h3⟩ := h x List.mem_cons_self
    obtain ⟨b1, b2⟩ := show_int h1
    obtain ⟨c1, c2, c3, c4, c5⟩ := py_terms x.2 h2
    refine ⟨?_, ?_, ?_, ?_, ?_⟩
    · show (((PyData.int x.1).showable && (PyData.showableAll (x.2.map pyT) && true)) && PyData.showableAll (r.map pyR)) = true
      rw [b1, c1, a1]
      rfl
    · show ((false || (PyData.hasDictAll (x.2.map pyT) || false)) || PyData.hasDictAll (r.map pyR)) = false
      rw [c2, a2]
      rfl
    · show max (max 0 (max (PyData.depthAll (x.2.map pyT) + 1) 0) + 1) (PyData.depthAll (r.map pyR)) ≤ 4
      omega
    · show (((PyData.int x.1).leavesShort 110 && (PyData.leavesShortAll 110 (x.2.map pyT) && true)) && PyData.leavesShortAll 110 (r.map pyR)) = true
      rw [b2, c4, a4]
      rfl
    · show (0 + 1 + (PyData.bulkAll (x.2.map pyT) + 1 + 0)) + 1 + PyData.bulkAll (r.map pyR) ≤ 60 * (r.length + 1)
      omega
theorem py_sums {rs : List Row} (h : RSm rs) : (pyS rs).showable = true ∧ (pyS rs).hasDict = false ∧ (pyS rs).depth ≤ 60 ∧ (pyS rs).shown.length ≤ sizeLine := by
  obtain ⟨a1, a2, a3, a4, a5⟩ := py_rows rs h.2
  refine ⟨a1, a2, ?_, ?_⟩
  · show PyData.depthAll (rs.map pyR) + 1 ≤ 60
    omega
  · have b := PyData.shown_le_bulk 110 (by decide) (pyS rs) a4
    have c : (pyS rs).bulk ≤ 480 := by
      show PyData.bulkAll (rs.map pyR) ≤ 480
      have := h.1
      omega
    have d : (110 + 2) * (pyS rs).bulk ≤ 112 * 480 := Nat.mul_le_mul_left _ c
    exact sz (by omega)
theorem rows_rok {top deep wide : Int} {rs : List Row} (h : RowsOk top deep wide rs) (h1 : top ≤ 9) (h2 : deep ≤ 9) (h3 : wide < 2 ^ 100) : ROk rs := by
  refine ⟨h.first, h.rises, by have := h.n4; omega, fun r hr => ?_⟩
  obtain ⟨ht, hl, _⟩ := h.terms r hr
  refine ⟨by omega, fun t htm => ?_⟩
  have k := ht t htm
  have k1 := k.p0; have k2 := k.p1; have k3 := k.f0; have k4 := k.f1; have k5 := k.o1; have k6 := k.u0; have k7 := k.u1
  refine ⟨k1, by omega, k3, by omega, ?_, k6, k7⟩
  omega
end OG

set_option Elab.async false
set_option linter.all false
set_option maxRecDepth 100000
set_option maxHeartbeats 4000000
namespace OG
open PySem PySem.Spec PyProof.Rows L2
section
variable {X : Cx}
/-! ### any of data; max of data whose first is the greatest -/
def rAnyP (K : PySem.W.Frag) : List V → Hp → VK → Prop := fun vs H Q => ∃ (a : Addr) (xs : List V) (ds : List PyData), vs = [.ref a] ∧ SqL K H a xs ∧ DpAll K H xs ds ∧ PyData.plainAll ds = true ∧ (∀ x ∈ ds, x.fits63) ∧ Q (.bl (ds.any PyData.truthy)) H
theorem cr_anyP (hc : X.calm = true) : CallR X (.builtin "any") (rAnyP X.K) := by
  intro pins s σ H vs us Q I r h
  obtain ⟨a, xs, ds, rfl, hs, hd, hp, hf, q⟩ := h
  obtain ⟨its, rv, hl, _⟩ := I.list hs
  rw [Vals.ref1 r]
  obtain ⟨as, hr⟩ := Dp.readsAll I ds xs its hd rv
  refine PySem.W.any_list_data (I.ok.hd hc) hl.isList (by simpa using hr) hp hf fun h' tk k => ?_
  exact ⟨.bl _, H, I.kept (t' := tk) k, rfl, q⟩
theorem best_zero {bt : Nat → Nat → Bool} : ∀ {n : Nat}, (∀ k, 1 ≤ k → k ≤ n → bt k 0 = false) → argBest bt n = 0
  | 0, _ => rfl
  | n + 1, h => by
    have ih : argBest bt n = 0 := best_zero fun k h1 h2 => h k h1 (by omega)
    show (if bt (n + 1) (argBest bt n) = true then n + 1 else argBest bt n) = 0
    rw [ih, h (n + 1) (by omega) (Nat.le_refl _)]
    rfl
def rMax0 (K : PySem.W.Frag) : List V → Hp → VK → Prop := fun vs H Q => ∃ (a : Addr) (v : V) (xs : List V) (x : PyData) (ds : List PyData), vs = [.ref a] ∧ SqL K H a (v :: xs) ∧ DpAll K H (v :: xs) (x :: ds) ∧ PySem.W.AlikeAll (x :: ds) ∧ PyData.depthAll (x :: ds) ≤ 10 ∧ (∀ y ∈ ds, PySem.W.dataLt x y = false) ∧ Q v H
theorem cr_max0 (hc : X.calm = true) (hu : X.A.units + 64 < cLine) : CallR X (.builtin "max") (rMax0 X.K) := by
  intro pins s σ H vs us Q I r h
  obtain ⟨a, v, xs, x, ds, rfl, hs, hd, ha, hdp, hm, q⟩ := h
  obtain ⟨its, rv, hl, _⟩ := I.list hs
  rw [Vals.ref1 r]
  obtain ⟨as, hr⟩ := Dp.readsAll I (x :: ds) (v :: xs) its hd rv
  have hr2 : ReadsAll s.heap its.toArray.toList (x :: ds) as := by simpa using hr
  have hn : its.toArray.size = ds.length + 1 := PySem.W.readsAll_len hr2
  refine call_max_walkH (PySem.W.iter_listW (A := X.A.in1) (I.ok.hd hc) hl.isList fun s₂ e W st hfp hw hk => ?_)
  refine ⟨_, _, _, _, _, _, _, s.heap, _, rfl, W, st, hfp, by omega, hw, hk, PySem.W.cmpIn_gt (A := X.A.in1) hr2 ha (by show X.A.units + 1 + _ < _; omega), fun u s' hP m => ?_⟩
  obtain ⟨h', tk, rfl, hk'⟩ := PySem.W.moved_old e rfl m
  have e0 : argBest (fun i j => PySem.W.dataLt ((x :: ds).getD j .none) ((x :: ds).getD i .none)) (its.toArray.size - 1) = 0 := best_zero fun k k1 k2 => by
    obtain ⟨k, rfl⟩ := Nat.exists_eq_add_of_le' k1
    have hlt : k < ds.length := by omega
    have e1 : (x :: ds).getD (k + 1) .none = ds[k] := by
      rw [List.getD_eq_getElem?_getD, List.getElem?_cons_succ, List.getElem?_eq_getElem hlt]
      rfl
    show PySem.W.dataLt x ((x :: ds).getD (k + 1) .none) = false
    rw [e1]
    exact hm _ (List.getElem_mem hlt)
  rw [e0] at hP
  cases rv with
  | @cons _ u0 _ ur r0 rr =>
    have e2 : u0 = u := by simpa using hP
    subst e2
    exact ⟨v, H, I.kept (t' := tk) hk', r0, q⟩
end
end OG

set_option Elab.async false
set_option linter.all false
set_option maxRecDepth 100000
set_option maxHeartbeats 4000000
namespace OG
open PySem PySem.Spec PyProof.Rows L2
/-! ### growths of sums -/
def tld (m b : Int) : Int × Int := if b = 3 then (if m = 1 then (1, 2) else if m = 3 then (2, 2) else if m = 9 then (4, 2) else (m, 3)) else (m, b)
inductive Res where
  | no
  | un
  | gr (x y z : Int)
def encRes : Res → D
  | .no => .non
  | .un => .str "uneven"
  | .gr x y z => .tup [.int x, .int y, .int z]
def lastTs (rs : List Row) : List Term := (rs.getLast?.map (·.2)).getD []
def grow (rs : List Row) (m b : Int) : Res :=
  match lastTs rs with
  | [] => if m = 0 ∨ (rs.all fun r => r.2.isEmpty) = true then .no else if worthOf rs 0 = (0, 1) then .un else .gr (tld m b).1 (tld m b).2 0
  | t :: _ => if m = 0 ∨ m < b ^ t.1.1.toNat then .gr (2 ^ t.1.1.toNat) 2 t.1.2 else .gr (tld m b).1 (tld m b).2 (if m > b ^ t.1.1.toNat then 0 else t.1.2 + 1)
/-- what is asked of the sums here -/
structure GSum (rs : List Row) : Prop where
  ok : ROk rs
  n0 : rs ≠ []
  falls : ∀ r ∈ rs, Falls r.2
def spTold : Sp := fun vs H Q _ => ∃ m b f : Int, vs = [.int m, .int b, .int f] ∧ 1 ≤ m ∧ m ≤ 9 ∧ (b = 2 ∨ b = 3) ∧ ∀ v H', Same H H' → Rp H' v (encRes (.gr (tld m b).1 (tld m b).2 f)) → Q v H'
def uneF : List (Str × V) := [("name", .str ""), ("word", .str "Uneven")]
def spFaint (CU : Addr) : Sp := fun vs H Q E => ∃ (S : Addr) (rs : List Row) (ls : List Addr) (m b : Int), vs = [.ref S, .int m, .int b] ∧ SumsAt H S rs ls ∧ GSum rs ∧ lastTs rs = [] ∧ 0 ≤ m ∧ m ≤ 9 ∧ (b = 2 ∨ b = 3) ∧
  (grow rs m b ≠ .un → ∀ v H', Same H H' → Rp H' v (encRes (grow rs m b)) → Q v H') ∧ (grow rs m b = .un → ∀ d H', Same H H' → H d = none → H' d = some (.xd uneF) → E (.ref CU) (some d) H')
def spGrowth (CU : Addr) : Sp := fun vs H Q E => ∃ (S : Addr) (rs : List Row) (ls : List Addr) (m b : Int), vs = [.ref S, .int m, .int b] ∧ SumsAt H S rs ls ∧ GSum rs ∧ 0 ≤ m ∧ m ≤ 9 ∧ (b = 2 ∨ b = 3) ∧
  (grow rs m b ≠ .un → ∀ v H', Same H H' → Rp H' v (encRes (grow rs m b)) → Q v H') ∧ (grow rs m b = .un → ∀ d H', Same H H' → H d = none → H' d = some (.xd uneF) → E (.ref CU) (some d) H')
def spDue : Sp := fun vs H Q _ => ∃ (S : Addr) (rs : List Row) (ls : List Addr) (m b : Int), vs = [.ref S, .int m, .int b] ∧ SumsAt H S rs ls ∧ GSum rs ∧ 0 ≤ m ∧ m ≤ 9 ∧ (b = 2 ∨ b = 3) ∧ ∀ v H', Same H H' → Rp H' v (encRes (grow rs m b)) → Q v H'

theorem dp_lists {K : PySem.W.Frag} {H : Hp} {us : List V} {rs : List Row} {ls : List Addr} (h : RowsAt H us rs ls) : DpAll K H (ls.map V.ref) (rs.map fun r => PyData.list (r.2.map pyT)) := by
  induction h with
  | nil => exact .nil
  | cons h t ih =>
    obtain ⟨a, _, _, vs, h1, h2⟩ := h
    exact .cons (.lst (SqL.of h1) (dp_terms _ _ h2)) ih
theorem plain_terms : ∀ ts : List Term, PyData.plainAll (ts.map pyT) = true
  | [] => rfl
  | t :: r => by
    show (PyData.plain (pyT t) && PyData.plainAll (r.map pyT)) = true
    rw [plain_terms r]
    rfl
theorem plain_lists : ∀ rs : List Row, PyData.plainAll (rs.map fun r => PyData.list (r.2.map pyT)) = true
  | [] => rfl
  | t :: r => by
    show (PyData.plainAll (t.2.map pyT) && PyData.plainAll (r.map fun r => PyData.list (r.2.map pyT))) = true
    rw [plain_lists r, plain_terms t.2]
    rfl
theorem any_lists : ∀ rs : List Row, ((rs.map fun r => PyData.list (r.2.map pyT)).any PyData.truthy) = !(rs.all fun r => r.2.isEmpty)
  | [] => rfl
  | t :: r => by
    rw [List.map_cons, List.any_cons, any_lists r, List.all_cons, Bool.not_and]
    congr 1
    show (!(t.2.map pyT).isEmpty) = !t.2.isEmpty
    cases t.2 <;> rfl
theorem eqv_pair (a b c d : Int) : PyData.eqv (.tuple [.int a, .int b]) (.tuple [.int c, .int d]) = decide ((a, b) = (c, d)) := by
  by_cases h1 : a = c <;> by_cases h2 : b = d <;> simp [PyData.eqv, PyData.eqvAll, h1, h2]
theorem shaped_pair (a b : Int) : SeqAt.shaped (.tuple [.int a, .int b]) = true := rfl
theorem dp_part {K : PySem.W.Frag} {H : Hp} {v : V} {o : Int × Int} (h : PartAt K H v o) : Dp K H v (.tuple [.int o.1, .int o.2]) := by
  obtain ⟨a, rfl, h⟩ := h
  exact .tup h (.cons (.int _) (.cons (.int _) .nil))
theorem can_terms : ∀ ts : List Term, PyData.canLayAll0 (ts.map pyT) = true
  | [] => rfl
  | t :: r => by
    show (PyData.canLay0 (pyT t) && PyData.canLayAll0 (r.map pyT)) = true
    rw [can_terms r]
    rfl
theorem depth_terms : ∀ ts : List Term, PyData.depthAll (ts.map pyT) ≤ 10
  | [] => by decide
  | t :: r => by
    show max (PyData.depth (pyT t)) (PyData.depthAll (r.map pyT)) ≤ 10
    have e : PyData.depth (pyT t) ≤ 10 := by
      show PyData.depth (.tuple [.tuple [.int 0, .int 0], .tuple [.int 0, .int 0]]) ≤ 10
      decide
    exact Nat.max_le.mpr ⟨e, depth_terms r⟩
theorem shaped_terms (ts : List Term) : SeqAt.shaped (.list (ts.map pyT)) = true := by
  have := depth_terms ts
  unfold SeqAt.shaped
  rw [Bool.and_eq_true]
  refine ⟨can_terms ts, decide_eq_true ?_⟩
  show PyData.depthAll (ts.map pyT) + 1 ≤ 64
  omega
theorem eqv_nil (ts : List Term) : PyData.eqv (.list (ts.map pyT)) (.list []) = ts.isEmpty := by
  cases ts with
  | nil => decide +kernel
  | cons t r => simp [PyData.eqv, PyData.eqvAll]

/-! ### a comprehension whose items are new -/
theorem lc_grow {K : PySem.W.Frag} {a : Addr} {xs : List V} {g : TG} {te : TE} {vs : List Nat} {σ : L2.St} {H1 : Hp} {D : Addr} {Qd : Hp → Prop} (R : Nat → V → Hp → Prop)
    (hR : ∀ i v (H H' : Hp) l, H D = some (.lst l) → R i v H → (∀ b o, b ≠ D → H b = some o → H' b = some o) → R i v H')
    (hz : xs.length < 100000) (hS : H1 a = some (.lst xs)) (hD : H1 D = none)
    (he : ∀ (i : Nat) (x : V) (H2 : Hp) (Nx : V → Hp → Prop), xs[i]? = some x → Same H1 H2 → (∃ l, H2 D = some (.lst l)) → (∀ y H3, Same H2 H3 → R i y H3 → Nx y H3) → g x (wipe σ vs) H2 fun σ2 H3 => wipe σ2 vs = wipe σ vs ∧ te σ2 H3 Nx)
    (hd : ∀ (H' : Hp) (ys : List V), Same H1 H' → H' D = some (.lst ys) → ys.length = xs.length → (∀ i y, ys[i]? = some y → R i y H') → Qd H') :
    ∃ W : Nat → Nat → Hp → Prop, (∃ m, W 0 m (upd H1 D (.lst []))) ∧ ∀ i m H, W i m H →
      ((Itl K a).stop i H ∧ Qd H) ∨ ((Itl K a).go i H ∧ ∃ Nx : Hp → Prop, (∀ H', Nx H' → ∃ m', m' < m ∧ W (i + 1) m' H') ∧ ∀ x H', (Itl K a).yld i H x H' → g x (wipe σ vs) H' fun σ2 H2 => wipe σ2 vs = wipe σ vs ∧ tYes σ2 H2 fun b H3 =>
        if b = true then te σ2 H3 fun y H4 => ∃ acc, H4 D = some (.lst acc) ∧ acc.length < sizeLine ∧ Nx (upd H4 D (.lst (acc ++ [y]))) else Nx H3) := by
  refine lc_list (xs := xs) (fun i H' => Same H1 H' ∧ ∃ ys, H' D = some (.lst ys) ∧ ys.length = i ∧ ∀ j y, ys[j]? = some y → R j y H') ⟨same_new hD, [], upd_same, rfl, fun j y h => by simp at h⟩ (fun i H' hi hP => SqL.of (hP.1 _ _ hS)) (fun i x H' hx hP => ?_) (fun H' hP => ?_)
  · obtain ⟨sm, ys, hl, hn, hr⟩ := hP
    have hi : i < xs.length := by
      obtain ⟨h, _⟩ := List.getElem?_eq_some_iff.mp hx
      exact h
    refine he i x H' _ hx sm ⟨_, hl⟩ fun y H3 s3 hy => ?_
    have l3 := s3 _ _ hl
    refine ⟨ys, l3, szl (by omega), Same.upd_new (sm.trans s3) hD, ys ++ [y], upd_same, by rw [List.length_append, hn]; rfl, fun j z hj => ?_⟩
    rcases Nat.lt_or_ge j ys.length with h | h
    · rw [List.getElem?_append_left h] at hj
      exact hR j z H' _ _ hl (hr j z hj) fun b o nb hb => by rw [upd_ne nb]; exact s3 _ _ hb
    · rw [List.getElem?_append_right h] at hj
      have ej : j = i := by
        rcases Nat.lt_or_ge (j - ys.length) 1 with h2 | h2
        · omega
        · rw [List.getElem?_eq_none (by simpa using h2)] at hj
          cases hj
      rw [show j - ys.length = 0 by omega] at hj
      have ez : y = z := by simpa using hj
      subst ez
      rw [ej]
      exact hR i y H3 _ _ l3 hy fun b o nb hb => by rw [upd_ne nb]; exact hb
  · obtain ⟨sm, ys, hl, hn, hr⟩ := hP
    exact hd H' ys sm hl hn hr
theorem imm_but {H H' : Hp} {D : Addr} {l : List V} (hD : H D = some (.lst l)) (k : ∀ b o, b ≠ D → H b = some o → H' b = some o) : Imm H H' := fun b xs hb => k b _ (fun z => by rw [z, hD] at hb; cases hb) hb
theorem rpl_at {H : Hp} {f : Term → D} : ∀ {ys : List V} {ts : List Term}, ys.length = ts.length → (∀ (j : Nat) (y : V), ys[j]? = some y → ∃ t, ts[j]? = some t ∧ Rp H y (f t)) → RpL H ys (ts.map f)
  | [], [], _, _ => rfl
  | [], _ :: _, h, _ => by simp at h
  | _ :: _, [], h, _ => by simp at h
  | y :: ys, t :: ts, h, hh => by
    obtain ⟨t', e, hr⟩ := hh 0 y rfl
    cases e
    exact ⟨y, ys, rfl, hr, rpl_at (by simpa using h) fun j z hz => hh (j + 1) z hz⟩
theorem rows_at {H : Hp} {C : Addr → Prop} {f : Row → Row} : ∀ {ys : List V} {rs : List Row}, ys.length = rs.length → (∀ (j : Nat) (y : V), ys[j]? = some y → ∃ r l, rs[j]? = some r ∧ RowAt H y (f r) l ∧ C l) → ∃ ls, RowsAt H ys (rs.map f) ls ∧ ∀ l ∈ ls, C l
  | [], [], _, _ => ⟨[], .nil, fun l hl => (nomatch hl)⟩
  | [], _ :: _, h, _ => by simp at h
  | _ :: _, [], h, _ => by simp at h
  | y :: ys, r :: rs, h, hh => by
    obtain ⟨r', l, e, hr, hc⟩ := hh 0 y rfl
    cases e
    obtain ⟨ls, h1, h2⟩ := rows_at (C := C) (f := f) (ys := ys) (rs := rs) (by simpa using h) fun j z hz => hh (j + 1) z hz
    refine ⟨l :: ls, .cons hr h1, fun x hx => ?_⟩
    rcases List.mem_cons.mp hx with rfl | hx
    · exact hc
    · exact h2 x hx
def absT (t : Term) : Term := (t.1, ((t.2.1.natAbs : Int), t.2.2))
def absR (r : Row) : Row := (r.1, r.2.map absT)
theorem gsum_abs {top deep wide : Int} {rs : List Row} (h : RowsOk top deep wide rs) (h1 : top ≤ 9) (h2 : deep ≤ 9) (h3 : wide < 2 ^ 100) : GSum (rs.map absR) := by
  have ro := rows_rok h h1 h2 h3
  have em : (rs.map absR).map (·.1) = rs.map (·.1) := by rw [List.map_map]; rfl
  refine ⟨⟨?_, ?_, ?_, fun r hr => ?_⟩, ?_, fun r hr => ?_⟩
  · have := ro.first
    cases rs with
    | nil => exact this
    | cons r _ => exact this
  · rw [em]
    exact ro.rises
  · rw [List.length_map]
    exact ro.short
  · obtain ⟨r0, hr0, rfl⟩ := List.mem_map.mp hr
    obtain ⟨k1, k2⟩ := ro.terms r0 hr0
    refine ⟨by show (r0.2.map absT).length ≤ 8; rw [List.length_map]; exact k1, fun t ht => ?_⟩
    obtain ⟨t0, ht0, rfl⟩ := List.mem_map.mp (show t ∈ r0.2.map absT from ht)
    obtain ⟨a1, a2, a3, a4, a5, a6, a7⟩ := k2 t0 ht0
    exact ⟨a1, a2, a3, a4, by show ((t0.2.1.natAbs : Int)).natAbs < 2 ^ 101; rw [Int.natAbs_natCast]; exact a5, a6, a7⟩
  · exact fun z => h.n0 (List.map_eq_nil_iff.mp z)
  · obtain ⟨r0, hr0, rfl⟩ := List.mem_map.mp hr
    obtain ⟨_, _, hf⟩ := h.terms r0 hr0
    show List.Pairwise _ (r0.2.map absT)
    rw [List.pairwise_map]
    exact hf
def spPlus : Sp := fun vs H Q _ => ∃ (d L : Addr) (top deep wide : Int), vs = [.ref d, .int top, .int deep, .int wide] ∧ Dr H d L ∧ 0 ≤ top ∧ top ≤ 9 ∧ 0 ≤ deep ∧ deep ≤ 9 ∧ 1 ≤ wide ∧ wide < 2 ^ 100 ∧
  ∀ (S : Addr) (rs : List Row) (ls : List Addr) (H' : Hp), S ≠ d → (∀ l ∈ ls, l ≠ d) → SumsAt H' S rs ls → GSum rs → Dr H' d L → Go (· = d) H H' → Q (.ref S) H'
theorem pi_listK {X : Cx} {K : PySem.W.Frag} {tg l : Expr} {tl : TE} (h : X.K = K) (hl : PE X l tl) : PI X tg l (iList K tl) := h ▸ pi_list hl
theorem tru_lst {K : PySem.W.Frag} {H : Hp} {l : Addr} {us : List V} (h : H l = some (.lst us)) : TruV K (.ref l) H (!decide (us.length = 0)) := .inl ⟨us, SqL.of h, by cases us <;> simp⟩
theorem atI_head (x : V) (xs : List V) : atI (x :: xs) 0 = some x := by
  have e : ixN (x :: xs).length 0 = some 0 := by
    unfold ixN
    rw [if_pos (by decide), if_pos (by rw [List.length_cons]; omega)]
    rfl
  unfold atI
  rw [e]
  rfl
theorem last_row {H : Hp} {us : List V} {rs : List Row} {ls : List Addr} (hR : RowsAt H us rs ls) (h0 : rs ≠ []) : ∃ (us0 : List V) (bl l : Addr) (r : Row) (vs : List V), us = us0 ++ [.ref bl] ∧ r ∈ rs ∧ lastTs rs = r.2 ∧ H bl = some (.tup [.int r.1, .ref l]) ∧ H l = some (.lst vs) ∧ RpL H vs (r.2.map encT) ∧ l ∈ ls := by
  have lu := hR.len
  rcases List.eq_nil_or_concat us with e | ⟨us0, u, e⟩
  · exact absurd (List.eq_nil_of_length_eq_zero (by rw [← lu.1, e]; rfl)) h0
  rw [List.concat_eq_append] at e
  have hl : us[us0.length]? = some u := by rw [e]; simp
  obtain ⟨r, l, hr, hl2, hRl⟩ := hR.get hl
  obtain ⟨bl, rfl, hb, vs, h1, h2⟩ := hRl
  have e2 : us0.length = rs.length - 1 := by
    have := lu.1
    rw [e, List.length_append] at this
    simp at this
    omega
  refine ⟨us0, bl, l, r, vs, e, List.mem_of_getElem? hr, ?_, hb, h1, h2, List.mem_of_getElem? hl2⟩
  unfold lastTs
  rw [List.getLast?_eq_getElem?, ← e2, hr]
  rfl
def topOf (ts : List Term) : Int × Int := match ts with | [] => (0, 0) | t :: _ => t.1

def pyK (t : Term) : PyData := .tuple [.int t.1.1, .int t.1.2]
theorem lt_pair {a b c d : Int} (h : c < a ∨ (c = a ∧ d < b)) : PySem.W.dataLt (.tuple [.int a, .int b]) (.tuple [.int c, .int d]) = false := by
  rw [PySem.W.dataLt_tuple]
  show PyProof.Rows.lexLt PyProof.Rows.itemOrd [.inl 1, .inl a, .inl 1, .inl b, .inl 0] [.inl 1, .inl c, .inl 1, .inl d, .inl 0] = false
  rw [PyProof.Rows.lex_self]
  rcases h with h | ⟨rfl, h⟩
  · rw [PyProof.Rows.lex_diff (fun z => by injection z with z; omega)]
    show decide (a < c) = false
    exact decide_eq_false (by omega)
  · rw [PyProof.Rows.lex_self, PyProof.Rows.lex_self, PyProof.Rows.lex_diff (fun z => by injection z with z; omega)]
    show decide (b < d) = false
    exact decide_eq_false (by omega)
theorem dp_keys {K : PySem.W.Frag} {H : Hp} : ∀ (ts : List Term) (us : List V), RpL H us (ts.map fun t => encP t.1) → DpAll K H us (ts.map pyK)
  | [], _, h => by rw [show _ = [] from h]; exact .nil
  | t :: r, _, h => by
    obtain ⟨v, vs, rfl, hv, ht⟩ := h
    exact .cons (rp_dp (encP t.1) v hv) (dp_keys r vs ht)
theorem depth_keys : ∀ ts : List Term, PyData.depthAll (ts.map pyK) ≤ 10
  | [] => by decide
  | t :: r => by
    show max (PyData.depth (pyK t)) (PyData.depthAll (r.map pyK)) ≤ 10
    have e : PyData.depth (pyK t) ≤ 10 := by
      show PyData.depth (.tuple [.int 0, .int 0]) ≤ 10
      decide
    exact Nat.max_le.mpr ⟨e, depth_keys r⟩
theorem alike_keys (ts : List Term) : PySem.W.AlikeAll (ts.map pyK) := ⟨fun x hx y hy => by
  obtain ⟨a, _, rfl⟩ := List.mem_map.mp hx
  obtain ⟨b, _, rfl⟩ := List.mem_map.mp hy
  rfl, fun x hx => by
  obtain ⟨a, _, rfl⟩ := List.mem_map.mp hx
  exact fun z => by cases z⟩
theorem max_keys {t : Term} {ts : List Term} (h : Falls (t :: ts)) : ∀ y ∈ ts.map pyK, PySem.W.dataLt (pyK t) y = false := fun y hy => by
  obtain ⟨a, ha, rfl⟩ := List.mem_map.mp hy
  have h1 := (List.pairwise_cons.mp h).1 a ha
  exact lt_pair (SrtO.lexB_iff.mp h1)
theorem ne_nil {K : PySem.W.Frag} {H : Hp} {l : Addr} {ts : List Term} {Q : VK} (hT : TermsAt H l ts) (h : ∀ H', Same H H' → Q (.bl (!ts.isEmpty)) H') :
    ([] : List V).length ≤ sizeLine ∧ ∀ p, H p = none → rNeD K (.ref l) (.ref p) (upd H p (.lst [])) Q := by
  refine ⟨by decide, fun p np => ?_⟩
  obtain ⟨us, h1, h2⟩ := hT.same (same_new (o := .lst []) np)
  refine ⟨_, _, .lst (SqL.of h1) (dp_terms _ _ h2), .lst (SqL.of upd_same) .nil, shaped_terms _, rfl, ?_⟩
  rw [eqv_nil]
  exact h _ (same_new np)
theorem eq_nil {K : PySem.W.Frag} {H : Hp} {l : Addr} {ts : List Term} {Q : VK} (hT : TermsAt H l ts) (h : ∀ H', Same H H' → Q (.bl ts.isEmpty) H') :
    ([] : List V).length ≤ sizeLine ∧ ∀ p, H p = none → rEqD K (.ref l) (.ref p) (upd H p (.lst [])) Q := by
  refine ⟨by decide, fun p np => ?_⟩
  obtain ⟨us, h1, h2⟩ := hT.same (same_new (o := .lst []) np)
  refine ⟨_, _, .lst (SqL.of h1) (dp_terms _ _ h2), .lst (SqL.of upd_same) .nil, shaped_terms _, rfl, ?_⟩
  rw [eqv_nil]
  exact h _ (same_new np)
end OG

set_option Elab.async false
set_option linter.all false
set_option maxRecDepth 100000
set_option maxHeartbeats 4000000
namespace OGX
open PySem PySem.Spec PyProof.Rows L2 OG
/-! ### a tuple of any number of classes in an except clause -/
section
variable {M : Model} {A : Around} {E : Value → Shared → Prop} {s : Shared} {α : Type}
theorem loop_all {f : Value → α → Sem (ForInStep α)} {r : α} : ∀ {cs : List Value} {Q : α → Shared → Prop}, (∀ c ∈ cs, ∀ Q' : ForInStep α → Shared → Prop, Q' (.yield r) s → wpAny M A (f c r) Q' E s) → Q r s → wpAny M A (forIn cs r f) Q E s
  | [], Q, _, q => by
    simp only [List.forIn_nil]
    exact wpAny_pure q
  | c :: cs, Q, st, q => by
    simp only [List.forIn_cons]
    exact wpAny_bind (st c List.mem_cons_self _ (loop_all (fun d hd => st d (List.mem_cons_of_mem _ hd)) q))
theorem loop_find {f : Value → α → Sem (ForInStep α)} {r r1 : α} {b : Value → Bool} : ∀ {cs : List Value} {Q : α → Shared → Prop}, (∀ c ∈ cs, ∀ Q' : ForInStep α → Shared → Prop, Q' (if b c then .done r1 else .yield r) s → wpAny M A (f c r) Q' E s) → Q (if cs.any b then r1 else r) s → wpAny M A (forIn cs r f) Q E s
  | [], Q, _, q => by
    simp only [List.forIn_nil]
    exact wpAny_pure q
  | c :: cs, Q, st, q => by
    simp only [List.forIn_cons]
    refine wpAny_bind (st c List.mem_cons_self _ ?_)
    rw [List.any_cons] at q
    cases hb : b c with
    | true =>
      rw [hb, Bool.true_or, if_pos rfl] at q
      exact wpAny_pure q
    | false =>
      rw [hb, Bool.false_or] at q
      exact loop_find (fun d hd => st d (List.mem_cons_of_mem _ hd)) q
end
theorem exm_all {K : PySem.W.Frag} {cls : Value} : ∀ {cs : List Value} {b : Bool}, PySem.W.exmAny K cls cs = some b → (∀ c ∈ cs, ∃ d, PySem.W.exmOne K cls c = some d) ∧ b = cs.any (fun c => PySem.W.exmOne K cls c == some true)
  | [], b, h => ⟨fun c hc => (nomatch hc), (Option.some.inj h).symm⟩
  | c :: cs, b, h => by
    obtain ⟨b1, d1, h1, h2, rfl⟩ := PySem.W.exmAny_cons h
    obtain ⟨r1, r2⟩ := exm_all h2
    refine ⟨fun d hd => ?_, ?_⟩
    · rcases List.mem_cons.mp hd with rfl | hd
      · exact ⟨b1, h1⟩
      · exact r1 d hd
    · rw [List.any_cons, ← r2, h1]
      cases b1 <;> rfl
theorem exm_tups {M : Model} {K : PySem.W.Frag} {cs : List Value} {cls : Value} {tp e : Addr} {b : Bool} {h : Heap} (X : K.In h) (LT : PySem.W.Looks M h (typeOf (.ref e)) cls) (hp : h.get? tp = some { cls := .type "tuple", data := .seq cs.toArray }) (hx : PySem.W.exmAny K cls cs = some b) :
    PySem.W.Looks M h (excMatches (.ref e) (.ref tp)) b := by
  intro A Q E s k₀ q
  obtain ⟨hh, g, d, tk, os⟩ := s
  have k : ∀ b o, h.get? b = some o → hh.get? b = some o := k₀
  have LT0 : PySem.W.Looks M h (isInstance (.ref tp) (.type "tuple")) true := ((PySem.W.Looks.ld hp).andThen .now).andThen (PySem.W.Looks.of_pure isSubtype_tuple_tuple)
  obtain ⟨all, eb⟩ := exm_all hx
  have LT := LT.keeps k
  have LT0 := LT0.keeps k
  have hp' := k _ _ hp
  unfold excMatches
  refine wpAny_bind (LT0.at ?_)
  dsimp only
  rw [if_pos rfl]
  first
    | refine wpAny_bind (wpAny_seqItems hp' rfl ?_)
    | refine wpAny_bind (wpAny_bind (wpAny_seqItems hp' rfl (wpAny_pure ?_)))
  dsimp only [Option.getD_some, Option.getD]
  refine wpAny_bind (wpAny_pure ?_)
  refine wpAny_bind (loop_all (fun c hc Q' q' => ?_) ?_)
  · obtain ⟨d1, h1⟩ := all c hc
    obtain ⟨e1, _⟩ := PySem.W.exm_cls (M := M) X h1
    have e1 := e1.keeps k
    refine wpAny_bind (e1.at ?_)
    simp only [Bool.not_true, Bool.false_eq_true, if_false]
    exact wpAny_pure q'
  · refine wpAny_bind (LT.at ?_)
    refine wpAny_bind (loop_find (b := fun c => PySem.W.exmOne K cls c == some true) (r1 := (some true, ())) (fun c hc Q' q' => ?_) ?_)
    · obtain ⟨d1, h1⟩ := all c hc
      obtain ⟨_, s1⟩ := PySem.W.exm_cls (M := M) X h1
      have s1 := s1.keeps k
      rw [h1] at q'
      refine wpAny_bind (s1.at ?_)
      cases d1 with
      | true => exact wpAny_pure q'
      | false => exact wpAny_pure q'
    · rw [← eb]
      cases b with
      | true => exact wpAny_pure q
      | false => exact wpAny_pure q
/-! ### several except clauses, each with a name for what is caught: a class or a tuple of classes each; what stands behind the last one that is read is not reached -/
inductive NamesL (X : Cx) : List Expr → List Value → Prop where
  | nil : NamesL X [] []
  | cons {x : Str} {c : Value} {np : Pos} {es : List Expr} {cs : List Value} (h : Names X x c) (r : NamesL X es cs) : NamesL X (.Name x np :: es) (c :: cs)
inductive TestX (X : Cx) : Expr → List Value → Prop where
  | one {x : Str} {c : Value} {np : Pos} (h : Names X x c) : TestX X (.Name x np) [c]
  | tup {es : List Expr} {cs : List Value} {k : Nat} {tpos : Pos} (h : NamesL X es cs) (hl : cs.length ≤ sizeLine) : TestX X (.Tuple es k tpos) cs
section
variable {X : Cx} {pins : List (Addr × Obj)} {σ : L2.St} {H : Hp} {s : Shared}
theorem name_run {x : Str} {c : Value} {np : Pos} {a : Addr} {pn : List (Addr × Obj)} (S : L2.Inv (X.suite a pn) pins σ H s) (hc : Names X x c) {Q E : Value → Shared → Prop} (q : Q c s) : wpAny (model X.prog X.w) (X.A.mark (some (Value.ref a))) (eval (Expr.Name x np) X.env) Q E s := by
  obtain ⟨hg, hdbg, hm | ⟨hm, hv, hnn⟩⟩ := hc
  · exact ld_glob (X := X.suite a pn) S hg hm q hdbg
  · exact ld_blt (X := X.suite a pn) S hg hm hv q hnn hdbg
theorem names_run {a : Addr} {pn : List (Addr × Obj)} {pos : Pos} (S : L2.Inv (X.suite a pn) pins σ H s) {E : Value → Shared → Prop} {es : List Expr} {cs : List Value} (h : NamesL X es cs) : ∀ {Q : List Value → Shared → Prop}, Q cs s → wpAny (model X.prog X.w) (X.A.mark (some (Value.ref a))) (spliced (backTo pos (starEach es X.env))) Q E s := by
  induction h with
  | nil => exact fun q => wpAny_items_nil q
  | cons hc r ih => exact fun q => wpAny_items_cons (name_run S hc (ih q))
theorem test_run {a : Addr} {pn : List (Addr × Obj)} {cls : Value} {b : Bool} {te : Expr} {cs : List Value} (S : L2.Inv (X.suite a pn) pins σ H s) (h : TestX X te cs) (LT : PySem.W.Looks (model X.prog X.w) s.heap (typeOf (.ref a)) cls) (hx : PySem.W.exmAny X.K cls cs = some b)
    {Q : Bool → Shared → Prop} {E1 E2 : Value → Shared → Prop} (q : ∀ h', (∀ b o, s.heap.get? b = some o → h'.get? b = some o) → Q b { s with heap := h' }) :
    wpAny (model X.prog X.w) (X.A.mark (some (Value.ref a))) (eval te X.env) (fun c s₁ => wpAny (model X.prog X.w) (X.A.mark (some (Value.ref a))) (excMatches (.ref a) c) Q E1 s₁) E2 s := by
  have KX : X.K.In s.heap := S.kIn
  cases h with
  | one hc =>
    obtain ⟨b1, d1, h1, h2, eb⟩ := PySem.W.exmAny_cons hx
    have e2 : false = d1 := Option.some.inj h2
    subst e2
    rw [Bool.or_false] at eb
    subst eb
    exact name_run S hc ((PySem.W.exm_one (M := model X.prog X.w) KX LT h1).here (q s.heap fun _ _ z => z))
  | tup hc hl =>
    refine wpAny_Tuple (names_run S hc ⟨hl, ?_⟩)
    have kp : ∀ b o, s.heap.get? b = some o → (s.heap.push { cls := .type "tuple", data := .seq cs.toArray }).get? b = some o := fun _ _ z => Heap.get?_push_of_some _ z
    exact (exm_tups (KX.keeps kp) (LT.keeps kp) (Heap.get?_push_size s.heap rfl) hx).here (q _ kp)
end
theorem flying_kept {B : Heap} {stk : List Env} {a : Addr} {Z : Obj → Prop} {h h' : Heap} (k : ∀ b o, h.get? b = some o → h'.get? b = some o) (f : HandSPX.FlyingZ B stk a Z h) : HandSPX.FlyingZ B stk a Z h' := by
  obtain ⟨f1, f2, f3, oe, vs, T, oT, ts, he, hz, hd, h1, hnT, hTe, hT, hdT, h3⟩ := f
  exact ⟨fun b o e => k b o (f1 b o e), f2, f3.of_keeps fun b o e _ => ⟨o, k b o e, rfl⟩, oe, vs, T, oT, ts, k _ _ he, hz, hd, h1, hnT, hTe, k _ _ hT, hdT, h3⟩
abbrev Clause := List Value × Nat × (Addr → Value → Option Addr → TS)
inductive Hds (X : Cx) : List ExceptHandler → List Clause → Prop where
  | nil {hds : List ExceptHandler} : Hds X hds []
  | cons {te : Expr} {n : Str} {cs : List Value} {i : Nat} {ts : Addr → Value → Option Addr → TS} {b₀ : Stmt} {suite : List Stmt} {pos' : Pos} {hds : List ExceptHandler} {l : List Clause}
      (hi : X.N[i]? = some n) (hln : X.env.kindOf n = some NameKind.local) (hc : TestX X te cs)
      (hsu : ∀ (a : Addr) (oe : Obj) (cls : Value) (d : Option Addr) (pn : List (Addr × Obj)), Zc cls d oe → (∃ vs, oe.data = Data.fields vs) → PSs (X.suite a ((a, oe) :: pn)) (b₀ :: suite) (ts a cls d))
      (r : Hds X hds l) : Hds X (ExceptHandler.ExceptHandler (some te) (some n) (b₀ :: suite) pos' :: hds) ((cs, i, ts) :: l)
def outX (D : Ends) (i : Nat) : Ends := { nx := fun σ' H' => D.nx (List.set σ' i none) H', rt := D.rt, bk := fun σ' H' => D.bk (List.set σ' i none) H', ct := fun σ' H' => D.ct (List.set σ' i none) H' }
def wMany (K : PySem.W.Frag) (n : Nat) (D : Ends) : List Clause → WX
  | [] => fun _ _ _ _ => False
  | (cs, i, ts) :: r => fun cls d σ H => ∃ b, PySem.W.exmAny K cls cs = some b ∧ (b = true → σ.length = n → ∀ a, H a = none → ts a cls d (outX D i) (List.set σ i (some (.ref a))) H) ∧ (b = false → wMany K n D r cls d σ H)
theorem handle_X {X : Cx} (ok : X.Ok) (hN : X.N.Nodup) {pins : List (Addr × Obj)} {σ : L2.St} {H : Hp} {cls : Value} {d : Option Addr} {a : Addr} {B : Heap} {stk : List Env} {D : Ends}
    (na : H a = none) (nL : a ≠ X.env.locals) (nF : ¬ a ∈ X.fs) {hds : List ExceptHandler} {l : List Clause} (h : Hds X hds l) :
    ∀ {s3 : Shared}, HandSPX.FlyingZ B stk a (Zc cls d) s3.heap → L2.Inv X pins σ H s3 →
    (∀ h4, HandSPX.FlyingZ B stk a (Zc cls d) h4 → s3.heap.UpToSlots h4 → L2.Inv X pins σ H { s3 with heap := h4 }) →
    wMany X.K X.N.length D l cls d σ H → wpAny (model X.prog X.w) X.A (handleBy (Value.ref a) X.env hds) (SP X pins D) X.xe s3 := by
  induction h with
  | nil => exact fun _ _ _ w => w.elim
  | @cons te n cs i ts b₀ suite pos' hds l hi hln hc hsu r ih =>
    rintro s3 fl J3 land ⟨b, hb1, hyes, hno⟩
    obtain ⟨oe3, vs3, he3, hz3, hd3⟩ := HandSPX.FlyingZ.there fl
    have S3 := Inv.suite J3 he3 hd3 na nL nF
    refine wpAny_handleBy_cons (codeAny_handlers_test ?_) (by intro e; cases e)
    have LT : PySem.W.Looks (model X.prog X.w) s3.heap (typeOf (Value.ref a)) cls := fun A Q E s k q => wpAny_typeOf_ref (k a oe3 he3) (by rw [hz3.1]; exact q)
    refine test_run S3 hc LT hb1 fun h' kp => ?_
    have fl' := flying_kept kp fl
    have J' : L2.Inv X pins σ H { s3 with heap := h' } := J3.kept (t' := s3.toks) kp
    have land' : ∀ h4, HandSPX.FlyingZ B stk a (Zc cls d) h4 → h'.UpToSlots h4 → L2.Inv X pins σ H { s3 with heap := h4 } := fun h4 f4 u4 => land h4 f4 (Heap.UpToSlots.trans (fun b o e _ => ⟨o.slots, kp b o e⟩) u4)
    cases b with
    | false => exact ih fl' J' land' (hno rfl)
    | true =>
      refine codeAny_handlers_suite_as (HandSPX.lands_againZ fl' fun h4 fl4 up4 => ?_)
      have J4 := land' h4 fl4 up4
      obtain ⟨oe4, vs4, he4, hz4, hd4⟩ := HandSPX.FlyingZ.there fl4
      have S4 := Inv.suite J4 he4 hd4 na nL nF
      refine store_ok (X := X.suite a ((a, oe4) :: (X.pn ++ pins))) (v := .ref a) S4 hN hi (.inl hln) rfl (fun s5 S5 => ?_) (.inr hln)
      refine wpAny_mono ((hsu a oe4 cls d (X.pn ++ pins) hz4 ⟨vs4, hd4⟩).run [] s5 _ _ (outX D i) S5 (hyes rfl J3.len a na)) (fun f s6 hsp => ?_) (fun e s6 he => he.elim)
      cases f with
      | next =>
        obtain ⟨σ6, H6, S6, q6⟩ := hsp
        exact gone_ok (Inv.unsuite S6 ok) hN hi hln fun s7 J7 => ⟨_, H6, J7, q6⟩
      | brk =>
        obtain ⟨σ6, H6, S6, q6⟩ := hsp
        exact gone_ok (Inv.unsuite S6 ok) hN hi hln fun s7 J7 => ⟨_, H6, J7, q6⟩
      | cont =>
        obtain ⟨σ6, H6, S6, q6⟩ := hsp
        exact gone_ok (Inv.unsuite S6 ok) hN hi hln fun s7 J7 => ⟨_, H6, J7, q6⟩
      | ret u =>
        obtain ⟨v, σ6, H6, S6, r6, q6⟩ := hsp
        exact gone_ok (Inv.unsuite S6 ok) hN hi hln fun s7 J7 => ⟨v, _, H6, J7, r6, q6⟩
theorem ps_try_X {X : Cx} {body : List Stmt} {h₀ : ExceptHandler} {hds : List ExceptHandler} {l : List Clause} {pos : Pos} {tb : WX → TS}
    (hs : X.stack = X.env :: X.outer) (hf : X.env.frame = some X.env.locals) (hN : X.N.Nodup)
    (hb : ∀ (W : WX) (pn : List (Addr × Obj)) (xe : Value → Shared → Prop), Takes (X.tr pn xe) W → PassesOwn (model X.prog X.w) X.A X.env xe → PSs (X.tr pn xe) body (tb W))
    (hh : Hds X (h₀ :: hds) l) : PS X (Stmt.Try body (h₀ :: hds) [] [] pos) fun D σ H => tb (wMany X.K X.N.length D l) D σ H := by
  refine ⟨fun pins s σ H D I h => ?_⟩
  have ok := I.ok
  have hfr : X.A.frames = some (X.env :: X.outer) := by rw [ok.frames, hs]
  refine wpAny_Try_except (wpAny_mono ((hb (wMany X.K X.N.length D l) (X.pn ++ pins) _ (fun u s' xx => ?_) PassesOwn.looking).run [] s σ H D (Inv.toTry I _) h) (fun f s1 hsp => ?_) fun e s1 he => he)
  · obtain ⟨a, B, sI, pins', σ', H', cls, d, rfl, J', nb, up, sky, na, os, ag, w⟩ := xx
    have J := Inv.ofTry J' ok
    have sky' : Sky B (X.env :: X.outer) a (Zc cls d) X.env.locals s'.heap := by
      rw [← hs]
      exact sky
    refine Sky.land Zc.steady hfr hf sky' fun h3 fl3 up3 => ?_
    obtain ⟨oe3, vs3, he3, hz3, hd3⟩ := HandSPX.FlyingZ.there fl3
    have nfr : ¬ a ∈ List.filterMap (fun x => x.frame) (X.env :: X.outer) := fun hm => by
      obtain ⟨_, o', e', hnf⟩ := Heap.FunFrames.mem fl3.2.2.1 hm
      rw [he3] at e'
      cases e'
      exact hnf _ hd3
    have nL : a ≠ X.env.locals := fun z => nfr (List.mem_filterMap.mpr ⟨X.env, List.mem_cons_self, by rw [hf, z]⟩)
    have nF : ¬ a ∈ X.fs := fun hm => by
      obtain ⟨e, he, q⟩ := List.mem_filterMap.mp hm
      exact nfr (List.mem_filterMap.mpr ⟨e, List.mem_cons_of_mem X.env he, q⟩)
    exact handle_X (s3 := { heap := h3, gens := s'.gens, drawn := s'.drawn, toks := s'.toks, os := s'.os }) ok hN na nL nF hh fl3 (Inv.landed J nb fl3.1 (Heap.UpToSlots.trans up up3) os ag) (fun h4 fl4 up4 => Inv.landed J nb fl4.1 (Heap.UpToSlots.trans (Heap.UpToSlots.trans up up3) up4) os ag) w
  · cases f with
    | next =>
      obtain ⟨σ', H', J', q⟩ := hsp
      exact wpAny_execs_nil ⟨σ', H', Inv.ofTry J' ok, q⟩
    | brk =>
      obtain ⟨σ', H', J', q⟩ := hsp
      exact ⟨σ', H', Inv.ofTry J' ok, q⟩
    | cont =>
      obtain ⟨σ', H', J', q⟩ := hsp
      exact ⟨σ', H', Inv.ofTry J' ok, q⟩
    | ret u =>
      obtain ⟨v, σ', H', J', r, q⟩ := hsp
      exact ⟨v, σ', H', Inv.ofTry J' ok, r, q⟩
/-! ### a def read off a class of the program and called: C.m(o, ..) -/
theorem pe_cfun {X : Cx} {CX : CXT} {k : Nat} {C f : Addr} {mc : Value} {fd : FuncData} {ps : List Str} {sp : Sp} {dvs : List V} {ds : List Value} {E : XK} {x m : Str} {p apos pos : Pos} {e : Expr} {es : List Expr} {t : TA} {pl : Sem Bool}
    (F : FnOk X.prog X.w X.K X.mg X.base CX k f fd ps sp) (hr : Room k X.A) (hg : Gl X x) (hm : X.mg x = some (Value.ref C)) (r : ClX.CRead X.K C mc)
    (hv : PySem.W.findCls X.K (Value.ref C) mc m = some (PySem.W.CFound.val (Value.ref f))) (hk : PySem.W.keepIn X.K (Value.ref f) = true) (hb : L2.Binds X.K fd ps ds) (hd : Vals dvs ds) (hx : Passes CX X E) (ha : PA X (e :: es) t)
    (hdb : (x == Str.ofString "__debug__") = false := by rfl)
    (hst : starEach (e :: es) X.env = (false, eval e X.env) :: starEach es X.env := by rfl)
    (hpl : ((backTo pos (starEach es X.env)).any fun x => x.fst) = false := by rfl)
    (ht : eval (((Expr.Name x p).Attribute m apos).Call (e :: es) [] pos) X.env = (do
        let ov ← eval (Expr.Name x p) X.env
        standAt apos.atName
        let __x ← holding [ov] (getMethod ov m pl)
        match __x with
        | (f, first) => callWith pos f first (backTo pos (starEach (e :: es) X.env)) (backToKw pos (keywordEach [] X.env))) := by rfl) :
    PE X (((Expr.Name x p).Attribute m apos).Call (e :: es) [] pos) (tCall sp dvs E t) := by
  refine ⟨fun pins s σ H Q I h => ?_⟩
  refine PySem.W.methodCall_KW (ld_glob I hg hm ?_ hdb) ht
  refine PySem.W.method_cls (Inv.kIn I) r.ga (PySem.W.cls_value (Inv.kIn I) r.rd hv rfl ?_)
  have I1 := Inv.tok I (s.toks + 1)
  refine PySem.W.callWith_K I.ok.mod.kin hk ?_ hst hpl
  refine thn (ha.run pos pins _ σ H (fun vs H1 => sp (vs ++ dvs) H1 Q E) I1 h) fun us s1 z => ?_
  obtain ⟨vs, H1, I2, rv, q⟩ := z
  exact ⟨Inv.kIn I2, run_fn F hr hb hd hx I2 rv q⟩
end OGX

set_option Elab.async false
set_option linter.all false
set_option maxRecDepth 100000
set_option maxHeartbeats 4000000
namespace OGX
open PySem PySem.Spec PyProof.Rows L2 OG L2H
/-! ### a def called in an except suite: its promise is told of the exception that is handled -/
abbrev SpX := Addr → Value → Option Addr → Sp
structure FnX (P : Program) (w : World) (K : PySem.W.Frag) (mg : Str → Option Value) (base : Heap) (k : Nat) (f : Addr) (fd : FuncData) (ps : List Str) (sp : SpX) : Prop where
  len : ∀ a cls d vs H Q E, sp a cls d vs H Q E → vs.length = ps.length
  run : ∀ (A : Around) (outer : List Env) (s : Shared) (H : Hp) (args : Args) (us : List Value) (vs : List V) (Q : VK) (E : XK) (a : Addr) (oe : Obj) (cls : Value) (d : Option Addr), RoomH k A → Zc cls d oe → (∃ vs, oe.data = Data.fields vs) → PinOk outer H s (a, oe) → Env0 P w K mg base A outer s H → BindsTo s fd args (ps.zip us) → Vals vs us → sp a cls d vs H Q E →
    codeAny (model P w) A (.call (.ref f) args) (CR C8.CX0 outer P w H s Q E) s
theorem fn_ofX {P : Program} {w : World} {K : PySem.W.Frag} {mg : Str → Option Value} {base : Heap} {k : Nat} {f : Addr} {name qual : Str} {params : Arguments} {body : List Stmt} {scope : Scope} {dV kV doc pm cdv ct oc : Value} {an od : Option Addr}
    {osl : Array (Option Value)} {N ps : List Str} {sp : SpX} (lk : K.lookup f = some ⟨oc, od, .func (PySem.W.fnOf name qual params body scope dV kV doc pm an cdv ct), osl⟩) (hcd : PySem.W.codeIn K cdv qual = true) (S : FnScope N ps scope)
    (len : ∀ a cls d vs H Q E, sp a cls d vs H Q E → vs.length = ps.length)
    (hbody : ∀ (A : Around) (outer : List Env) (s : Shared) (H : Hp) (vs : List V) (Q : VK) (E : XK) (a : Addr) (oe : Obj) (cls : Value) (d : Option Addr), Zc cls d oe → (∃ vs, oe.data = Data.fields vs) → RoomH k (A.deeper (envOfC qual scope s.heap.objs.size f cdv)) → sp a cls d vs H Q E →
      ∃ t, PSs (cxH C8.CX0 P w K mg base N qual scope f cdv A outer s H E (a, oe)) body t ∧ t { nx := fun _ H' => Q .non H', rt := Q } (L2.start N vs) H) :
    FnX P w K mg base (k + 1) f (PySem.W.fnOf name qual params body scope dV kV doc pm an cdv ct) ps sp := by
  constructor
  · exact len
  intro A outer s H args us vs Q E a oe cls d room isZ isF pin around bound vals told
  have stays : ∀ {b : Addr} {o : Obj}, base.get? b = some o → s.heap.get? b = some o := fun {b o} z => (around.bs b o z).1
  have written : K.In s.heap := around.mod.kin.keeps fun _ _ z => stays z
  have kinds : ∀ y ∈ ps.zip us, scope.names.lookup y.1 = some .local ∨ (scope.names.lookup y.1 = some .cell ∧ ((cellsFrom (s.heap.objs.size + 1) scope.names []).lookup y.1).isSome = true) := by
    intro y hy
    have := S.par y.1 (List.of_mem_zip (a := y.1) (b := y.2) hy).1
    exact this.imp id fun z => And.intro z (PySem.W.cellsFrom_some _ _ _ (.inl z))
  refine codeAny_call_function room.depth (written _ _ lk) rfl S.co S.gen rfl (PySem.W.codeRec_of written hcd) (bound _ _ _ _ (wpAny_newFunctionEnv_cells S.kind kinds ?_))
  rintro env rfl s1 inside
  refine ⟨(around.mod.nolimit.keeps fun _ _ z => stays z).keeps inside.toInCall.keep, codeAny_func ?_⟩
  obtain ⟨reading, rule, holds⟩ := hbody A outer s H vs Q E a oe cls d isZ isF (room.deeper _) told
  have J0 := inv_startH (CX := C8.CX0) (E := E) S pin around (len _ _ _ _ _ _ _ told) vals inside
  have ran := rule.run [] s1 _ H _ J0 holds
  refine wpAny_mono ran ?_ fun _ _ z => z
  rintro (_ | _ | _ | u) s' ends
  all_goals first
    | (obtain ⟨v, σ', H', J, rv, z⟩ := ends; exact ⟨v, H', J.os, J.bare, J.base, J.hok, rv, z⟩)
    | (obtain ⟨σ', H', J, z⟩ := ends; exact ⟨V.non, H', J.os, J.bare, J.base, J.hok, rfl, z⟩)
    | (obtain ⟨_, _, _, z⟩ := ends; exact False.elim z)
def tCallX (sp : SpX) (a : Addr) (cls : Value) (d : Option Addr) (t : TA) : TE := fun σ H Q => t σ H fun vs H1 => sp a cls d vs H1 Q (fun _ _ _ => False)
section
variable {X : Cx} {k : Nat} {f a : Addr} {oe : Obj} {cls : Value} {d : Option Addr} {pn : List (Addr × Obj)} {fd : FuncData} {ps : List Str} {sp : SpX} {x : Str} {q pos : Pos} {e : Expr} {es : List Expr} {t : TA}
theorem pe_callX (F : FnX X.prog X.w X.K X.mg X.base k f fd ps sp) (hr : RoomH k X.A) (hz : Zc cls d oe) (hf : ∃ vs, oe.data = Data.fields vs) (hg : Gl X x) (hm : X.mg x = some (.ref f)) (hk : PySem.W.keepIn X.K (.ref f) = true) (hb : L2.Binds X.K fd ps [])
    (ha : PA (X.suite a ((a, oe) :: pn)) (e :: es) t) (hdb : (x == ("__debug__" : Str)) = false := by decide) (he : starEach (e :: es) X.env = (false, eval e X.env) :: starEach es X.env := by rfl) (hpl : (backTo pos (starEach es X.env)).any (·.1) = false := by rfl) :
    PE (X.suite a ((a, oe) :: pn)) (.Call (.Name x q) (e :: es) [] pos) (tCallX sp a cls d t) := by
  refine ⟨fun pins s σ H Q I h => ?_⟩
  refine wpAny_Call_Name_kw (ld_glob (X := X.suite a ((a, oe) :: pn)) I hg hm ?_ hdb)
  refine PySem.W.callWith_K (h₀ := X.base) I.ok.mod.kin hk (thn (ha.run pos pins s σ H _ I h) fun us s1 ⟨vs, H1, I1, r, q⟩ => ⟨I1.kIn, ?_⟩) he hpl
  have hl : us.length = ps.length := by rw [← r.length]; exact F.len _ _ _ _ _ _ _ q
  have b := hb s1 us I1.kIn (by rw [List.append_nil]; exact hl)
  rw [List.append_nil] at b
  have P1 := I1.pin (a, oe) (List.mem_append_left _ List.mem_cons_self)
  have hpin : PinOk X.stack H1 s1 (a, oe) := ⟨P1.1, P1.2.1, fun hm => (List.mem_cons.mp (I1.stkSub a hm)).elim P1.2.2.1 P1.2.2.2.1, P1.2.2.2.2⟩
  refine wpAny_call (codeAny_mono (F.run (X.suite a ((a, oe) :: pn)).A X.stack s1 H1 ⟨us, []⟩ us vs Q (fun _ _ _ => False) a oe cls d ⟨hr.dp, hr.un⟩ hz hf hpin I1.env0 b r q) fun r s' hq => ?_)
  cases r with
  | error e => exact (show False from hq).elim
  | ok fl =>
    cases fl with
    | ret u => exact I1.after hq
    | next => exact False.elim hq
    | brk => exact False.elim hq
    | cont => exact False.elim hq
end
/-! ### isinstance of an exception that has fields; its fields -/
def rIsX (K : PySem.W.Frag) (a : Addr) (cls : Value) (d : Option Addr) : List V → Hp → VK → Prop := fun xs H Q => ∃ (D dd : Addr) (fs : List (Str × V)) (c : V) (cv : Value) (b : Bool), xs = [.ref a, c] ∧ cls = .ref D ∧ d = some dd ∧ ExcC K D ∧ H dd = some (.xd fs) ∧ (∀ u, RelV c u → u = cv) ∧ PySem.W.kitOne K (.ref D) cv = some b ∧ Q (.bl b) H
section
variable {X : Cx} {a : Addr} {oe : Obj} {cls : Value} {d : Option Addr}
theorem call_isX (hp : (a, oe) ∈ X.pn) (hz : Zc cls d oe) (hf : ∃ vs, oe.data = .fields vs) : CallR X (.builtin "isinstance") (rIsX X.K a cls d) := by
  intro pins s σ H xs us Q I r h
  obtain ⟨D, dd, fs, c, cv, b, rfl, rfl, rfl, C, ea, hcv, e, q⟩ := h
  cases r with
  | cons rx rr =>
    cases rr with
    | cons rt rr =>
      cases rr
      cases rx
      have ec := hcv _ rt
      subst ec
      obtain ⟨hget, _⟩ := I.pin (a, oe) (List.mem_append.mpr (.inl hp))
      obtain ⟨vs, hv⟩ := hf
      have hx : ObjOk X.prog X.w H s.heap dd (.xd fs) := I.hok dd _ ea
      obtain ⟨mA, hns, hr⟩ := hx
      obtain ⟨od, ho, hl⟩ := lookIn_ns hns
      have J : PySem.W.InstAt s.heap a oe D (some od) := ⟨hget, hz.1, by unfold PySem.W.notCls; rw [hv] <;> rfl, by rw [hz.2]; exact ho⟩
      have hcl : (PySem.W.clsIn X.K D).isSome = true := by
        have hd := C.hd
        unfold PySem.W.hasDictIn at hd
        cases hc : PySem.W.clsIn X.K D with
        | none => rw [hc] at hd; cases hd
        | some _ => rfl
      exact PySem.W.kia_one (PySem.W.kitx_exc hcl C.hg C.hk C.hs C.ha C.hn C.ht C.hm) I.kIn J e (fun z => nomatch z) fun tk => ⟨.bl b, H, I.kept (t' := tk) fun _ _ z => z, rfl, q⟩
theorem pe_xfX {C : Addr} {e : Expr} {te : TE} {pos : Pos} {n : Str} (hp : (a, oe) ∈ X.pn) (T : XfC X.K C) (hno : PySem.W.findIn X.K (.ref C) n = some none) (hz : Zc cls d oe) (hf : ∃ vs, oe.data = .fields vs) (he : PE X e te)
    (hb : attributeBase e n X.env (eval e X.env) = eval e X.env := by rfl) : PE X (.Attribute e n pos) (tXf a cls d C n te) := by
  have field : ∀ {pins : List (Addr × Obj)} {s1 : Shared} {σ : L2.St} {H1 : Hp} {Q : VK} {dd : Addr} {fs : List (Str × V)} {v : V}, L2.Inv X pins σ H1 s1 → H1 dd = some (.xd fs) → fs.lookup n = some v → Zc (.ref C) (some dd) oe → Q v H1 →
      wpAny (model X.prog X.w) X.A (getAttr (.ref a) n true) (EP X pins σ Q) X.xe s1 := fun {pins s1 σ H1 Q dd fs v} J1 hdd hlk hzz hq => by
    obtain ⟨fvs, hfv⟩ := hf
    have there := (J1.pin (a, oe) (List.mem_append_left _ hp)).1
    have dct : ObjOk X.prog X.w H1 s1.heap dd (.xd fs) := J1.hok dd _ hdd
    obtain ⟨names, isNs, told⟩ := dct
    obtain ⟨dobj, dget, dlook⟩ := lookIn_ns isNs
    have rel := told n
    rw [hlk] at rel
    obtain ⟨fval, hfval, rfval⟩ := RelO.some_of rel
    have inst : PySem.W.InstAt s1.heap a oe C (some dobj) := ⟨there, hzz.1, (by unfold PySem.W.notCls; rw [hfv]), (by rw [hzz.2]; exact dget)⟩
    have found : PySem.W.findObj X.K C (some dobj) n = some (.value fval) := PySem.W.findObj_own T.hdC hno rfl (by rw [dlook n, hfval])
    exact HandSPX.exc_get J1.kIn inst T.ga T.gg T.exC found (handed_of rfval) ⟨v, H1, J1.tok _, rfval, hq⟩
  constructor
  intro pins s σ H Q I h
  have base := he.run pins s σ H _ I h
  refine attr_of hb (thn base ?_)
  rintro u s1 ⟨x, H1, J1, rx, rfl, rfl, dd, fs, v, rfl, hdd, hlk, hq⟩
  cases rx
  exact field J1 hdd hlk hz hq
end
end OGX

set_option Elab.async false
set_option linter.all false
set_option maxRecDepth 100000
set_option maxHeartbeats 4000000
namespace K14
open PySem PySem.Spec PyProof.Rows L2 OG
open C8 (pss_cut pe_gc)
open OGX

def topS (i : Nat) : Stmt := PySem.Challenge.pw_outgrow_k14_growths_of_sums.main.body.getD i (.Pass ⟨0, 0, 0, 0⟩)
abbrev spower : Stmt := topS 20
abbrev Npower : List Str := ["base", "exponent", "total", "turn"]
theorem scpower : FnScope Npower ["base", "exponent"] (defScope spower) := ⟨rfl, rfl, rfl, by decide +kernel, rfl, by decide +kernel, by decide +kernel⟩

abbrev sgreatest_divisor : Stmt := topS 21
abbrev Ngreatest_divisor : List Str := ["one", "other"]
theorem scgreatest_divisor : FnScope Ngreatest_divisor ["one", "other"] (defScope sgreatest_divisor) := ⟨rfl, rfl, rfl, by decide +kernel, rfl, by decide +kernel, by decide +kernel⟩

abbrev spart_of : Stmt := topS 22
abbrev Npart_of : List Str := ["over", "under", "shared"]
theorem scpart_of : FnScope Npart_of ["over", "under"] (defScope spart_of) := ⟨rfl, rfl, rfl, by decide +kernel, rfl, by decide +kernel, by decide +kernel⟩

abbrev spart_sum : Stmt := topS 23
abbrev Npart_sum : List Str := ["one", "other"]
theorem scpart_sum : FnScope Npart_sum ["one", "other"] (defScope spart_sum) := ⟨rfl, rfl, rfl, by decide +kernel, rfl, by decide +kernel, by decide +kernel⟩

abbrev srow_at : Stmt := topS 25
abbrev Nrow_at : List Str := ["rows", "size", "low", "high", "middle"]
theorem scrow_at : FnScope Nrow_at ["rows", "size"] (defScope srow_at) := ⟨rfl, rfl, rfl, by decide +kernel, rfl, by decide +kernel, by decide +kernel⟩

abbrev sworth : Stmt := topS 27
abbrev Nworth : List Str := ["sums", "size", "total", "times", "power_of_n", "figures", "over", "under"]
theorem scworth : FnScope Nworth ["sums", "size"] (defScope sworth) := ⟨rfl, rfl, rfl, by decide +kernel, rfl, by decide +kernel, by decide +kernel⟩

abbrev sgrowth : Stmt := topS 28
abbrev Ngrowth : List Str := ["sums", "many", "base", "terms", "own", "usual", "power_of_n", "figures"]
theorem scgrowth : FnScope Ngrowth ["sums", "many", "base"] (defScope sgrowth) := ⟨rfl, rfl, rfl, by decide +kernel, rfl, by decide +kernel, by decide +kernel⟩

abbrev sfaint_growth : Stmt := topS 29
abbrev Nfaint_growth : List Str := ["sums", "many", "base", "since", "terms"]
theorem scfaint_growth : FnScope Nfaint_growth ["sums", "many", "base"] (defScope sfaint_growth) := ⟨rfl, rfl, rfl, by decide +kernel, rfl, by decide +kernel, by decide +kernel⟩

abbrev stold_growth : Stmt := topS 30
abbrev Ntold_growth : List Str := ["times", "base", "figures", "halves", "rest"]
theorem sctold_growth : FnScope Ntold_growth ["times", "base", "figures"] (defScope stold_growth) := ⟨rfl, rfl, rfl, by decide +kernel, rfl, by decide +kernel, by decide +kernel⟩

abbrev sl_begin : Stmt := topS 32
abbrev Nl_begin : List Str := ["_law_script"]
theorem scl_begin : FnScope Nl_begin ["_law_script"] (defScope sl_begin) := ⟨rfl, rfl, rfl, by decide +kernel, rfl, by decide +kernel, by decide +kernel⟩

abbrev sl_take : Stmt := topS 33
abbrev Nl_take : List Str := ["_law_draw", "_law_sides", "_law_cell", "_law_got"]
theorem scl_take : FnScope Nl_take ["_law_draw", "_law_sides"] (defScope sl_take) := ⟨rfl, rfl, rfl, by decide +kernel, rfl, by decide +kernel, by decide +kernel⟩

abbrev sl_gcd : Stmt := topS 34
abbrev Nl_gcd : List Str := ["_law_a", "_law_b"]
theorem scl_gcd : FnScope Nl_gcd ["_law_a", "_law_b"] (defScope sl_gcd) := ⟨rfl, rfl, rfl, by decide +kernel, rfl, by decide +kernel, by decide +kernel⟩

abbrev sl_lowest : Stmt := topS 35
abbrev Nl_lowest : List Str := ["_law_over", "_law_under", "_law_by"]
theorem scl_lowest : FnScope Nl_lowest ["_law_over", "_law_under"] (defScope sl_lowest) := ⟨rfl, rfl, rfl, by decide +kernel, rfl, by decide +kernel, by decide +kernel⟩

abbrev sl_terms : Stmt := topS 36
abbrev Nl_terms : List Str := ["_law_draw", "_law_top", "_law_deep", "_law_wide", "_law_found", "_law_k", "_law_over", "_law_key"]
theorem scl_terms : FnScope Nl_terms ["_law_draw", "_law_top", "_law_deep", "_law_wide"] (defScope sl_terms) := ⟨rfl, rfl, rfl, by decide +kernel, rfl, by decide +kernel, by decide +kernel⟩

abbrev sl_drawn_sums : Stmt := topS 37
abbrev Nl_drawn_sums : List Str := ["_law_draw", "_law_top", "_law_deep", "_law_wide", "_law_found", "_law_k"]
theorem scl_drawn_sums : FnScope Nl_drawn_sums ["_law_draw", "_law_top", "_law_deep", "_law_wide"] (defScope sl_drawn_sums) := ⟨rfl, rfl, rfl, by decide +kernel, rfl, by decide +kernel, by decide +kernel⟩

abbrev sl_plus_sums : Stmt := topS 38
abbrev Nl_plus_sums : List Str := ["_law_draw", "_law_top", "_law_deep", "_law_wide", "_law_found", "_law_since", "_law_terms_here", "_law_key", "_law_part"]
theorem scl_plus_sums : FnScope Nl_plus_sums ["_law_draw", "_law_top", "_law_deep", "_law_wide"] (defScope sl_plus_sums) := ⟨rfl, rfl, rfl, by decide +kernel, rfl, by decide +kernel, by decide +kernel⟩

abbrev sl_raised : Stmt := topS 39
abbrev Nl_raised : List Str := ["_law_part", "_law_upto", "_law_found", "_law_k"]
theorem scl_raised : FnScope Nl_raised ["_law_part", "_law_upto"] (defScope sl_raised) := ⟨rfl, rfl, rfl, by decide +kernel, rfl, by decide +kernel, by decide +kernel⟩

abbrev sl_sums_at : Stmt := topS 40
abbrev Nl_sums_at : List Str := ["_law_sums", "_law_size", "_law_terms_here", "_law_since", "_law_some", "_law_over", "_law_under", "_law_part", "_law_more", "_law_power", "_law_figures"]
theorem scl_sums_at : FnScope Nl_sums_at ["_law_sums", "_law_size"] (defScope sl_sums_at) := ⟨rfl, rfl, rfl, by decide +kernel, rfl, by decide +kernel, by decide +kernel⟩

abbrev sl_due_growth : Stmt := topS 41
abbrev Nl_due_growth : List Str := ["_law_sums", "_law_often", "_law_by_it", "_law_terms_here", "_law_top", "_law_line", "_law_figures", "_law_key", "_law_part", "_law_since", "_law_some"]
theorem scl_due_growth : FnScope Nl_due_growth ["_law_sums", "_law_often", "_law_by_it"] (defScope sl_due_growth) := ⟨rfl, rfl, rfl, by decide +kernel, rfl, by decide +kernel, by decide +kernel⟩

abbrev sl_class : Stmt := topS 42
abbrev Nl_class : List Str := ["_law_e"]
theorem scl_class : FnScope Nl_class ["_law_e"] (defScope sl_class) := ⟨rfl, rfl, rfl, by decide +kernel, rfl, by decide +kernel, by decide +kernel⟩

abbrev sl_tried : Stmt := topS 43
abbrev Nl_tried : List Str := ["_law_ask", "_law_e"]
theorem scl_tried : FnScope Nl_tried ["_law_ask"] (defScope sl_tried) := ⟨rfl, rfl, rfl, by decide +kernel, rfl, by decide +kernel, by decide +kernel⟩

abbrev sl_same : Stmt := topS 44
abbrev Nl_same : List Str := ["_law_found", "_law_due", "_law_one", "_law_other"]
theorem scl_same : FnScope Nl_same ["_law_found", "_law_due"] (defScope sl_same) := ⟨rfl, rfl, rfl, by decide +kernel, rfl, by decide +kernel, by decide +kernel⟩

abbrev slaw : Stmt := topS 45
abbrev Nlaw : List Str := ["_law_script", "_law_draw", "_law_turn", "_law_sums", "_law_due", "_law_found", "_law_number", "_law_root", "_law_since", "_law_terms_here"]
theorem sclaw : FnScope Nlaw ["_law_script"] (defScope slaw) := ⟨rfl, rfl, rfl, by decide +kernel, rfl, by decide +kernel, by decide +kernel⟩

structure Tops (K : PySem.W.Frag) (mg : Str → Option Value) where
  fpower : Addr
  dpower : FuncData
  Fpower : Fun K "power" "power" spower fpower dpower
  gpower : mg "power" = some (.ref fpower)
  fgreatest_divisor : Addr
  dgreatest_divisor : FuncData
  Fgreatest_divisor : Fun K "greatest_divisor" "greatest_divisor" sgreatest_divisor fgreatest_divisor dgreatest_divisor
  ggreatest_divisor : mg "greatest_divisor" = some (.ref fgreatest_divisor)
  fpart_of : Addr
  dpart_of : FuncData
  Fpart_of : Fun K "part_of" "part_of" spart_of fpart_of dpart_of
  gpart_of : mg "part_of" = some (.ref fpart_of)
  fpart_sum : Addr
  dpart_sum : FuncData
  Fpart_sum : Fun K "part_sum" "part_sum" spart_sum fpart_sum dpart_sum
  gpart_sum : mg "part_sum" = some (.ref fpart_sum)
  frow_at : Addr
  drow_at : FuncData
  Frow_at : Fun K "row_at" "row_at" srow_at frow_at drow_at
  grow_at : mg "row_at" = some (.ref frow_at)
  fworth : Addr
  dworth : FuncData
  Fworth : Fun K "worth" "worth" sworth fworth dworth
  gworth : mg "worth" = some (.ref fworth)
  fgrowth : Addr
  dgrowth : FuncData
  Fgrowth : Fun K "growth" "growth" sgrowth fgrowth dgrowth
  ggrowth : mg "growth" = some (.ref fgrowth)
  ffaint_growth : Addr
  dfaint_growth : FuncData
  Ffaint_growth : Fun K "faint_growth" "faint_growth" sfaint_growth ffaint_growth dfaint_growth
  gfaint_growth : mg "faint_growth" = some (.ref ffaint_growth)
  ftold_growth : Addr
  dtold_growth : FuncData
  Ftold_growth : Fun K "told_growth" "told_growth" stold_growth ftold_growth dtold_growth
  gtold_growth : mg "told_growth" = some (.ref ftold_growth)
  fl_begin : Addr
  dl_begin : FuncData
  Fl_begin : Fun K "_law_begin" "_law_begin" sl_begin fl_begin dl_begin
  gl_begin : mg "_law_begin" = some (.ref fl_begin)
  fl_take : Addr
  dl_take : FuncData
  Fl_take : Fun K "_law_take" "_law_take" sl_take fl_take dl_take
  gl_take : mg "_law_take" = some (.ref fl_take)
  fl_gcd : Addr
  dl_gcd : FuncData
  Fl_gcd : Fun K "_law_gcd" "_law_gcd" sl_gcd fl_gcd dl_gcd
  gl_gcd : mg "_law_gcd" = some (.ref fl_gcd)
  fl_lowest : Addr
  dl_lowest : FuncData
  Fl_lowest : Fun K "_law_lowest" "_law_lowest" sl_lowest fl_lowest dl_lowest
  gl_lowest : mg "_law_lowest" = some (.ref fl_lowest)
  fl_terms : Addr
  dl_terms : FuncData
  Fl_terms : Fun K "_law_terms" "_law_terms" sl_terms fl_terms dl_terms
  gl_terms : mg "_law_terms" = some (.ref fl_terms)
  fl_drawn_sums : Addr
  dl_drawn_sums : FuncData
  Fl_drawn_sums : Fun K "_law_drawn_sums" "_law_drawn_sums" sl_drawn_sums fl_drawn_sums dl_drawn_sums
  gl_drawn_sums : mg "_law_drawn_sums" = some (.ref fl_drawn_sums)
  fl_plus_sums : Addr
  dl_plus_sums : FuncData
  Fl_plus_sums : Fun K "_law_plus_sums" "_law_plus_sums" sl_plus_sums fl_plus_sums dl_plus_sums
  gl_plus_sums : mg "_law_plus_sums" = some (.ref fl_plus_sums)
  fl_raised : Addr
  dl_raised : FuncData
  Fl_raised : Fun K "_law_raised" "_law_raised" sl_raised fl_raised dl_raised
  gl_raised : mg "_law_raised" = some (.ref fl_raised)
  fl_sums_at : Addr
  dl_sums_at : FuncData
  Fl_sums_at : Fun K "_law_sums_at" "_law_sums_at" sl_sums_at fl_sums_at dl_sums_at
  gl_sums_at : mg "_law_sums_at" = some (.ref fl_sums_at)
  fl_due_growth : Addr
  dl_due_growth : FuncData
  Fl_due_growth : Fun K "_law_due_growth" "_law_due_growth" sl_due_growth fl_due_growth dl_due_growth
  gl_due_growth : mg "_law_due_growth" = some (.ref fl_due_growth)
  fl_class : Addr
  dl_class : FuncData
  Fl_class : Fun K "_law_class" "_law_class" sl_class fl_class dl_class
  gl_class : mg "_law_class" = some (.ref fl_class)
  fl_tried : Addr
  dl_tried : FuncData
  Fl_tried : Fun K "_law_tried" "_law_tried" sl_tried fl_tried dl_tried
  gl_tried : mg "_law_tried" = some (.ref fl_tried)
  fl_same : Addr
  dl_same : FuncData
  Fl_same : Fun K "_law_same" "_law_same" sl_same fl_same dl_same
  gl_same : mg "_law_same" = some (.ref fl_same)
  flaw : Addr
  dlaw : FuncData
  Flaw : Fun K "law" "law" slaw flaw dlaw
  glaw : mg "law" = some (.ref flaw)
  mabs : mg "abs" = none
  mall : mg "all" = none
  many : mg "any" = none
  mbool : mg "bool" = none
  mint : mg "int" = none
  misinstance : mg "isinstance" = none
  mlen : mg "len" = none
  mlist : mg "list" = none
  mmax : mg "max" = none
  mrange : mg "range" = none
  msorted : mg "sorted" = none
  mstr : mg "str" = none
  mtuple : mg "tuple" = none
  mzip : mg "zip" = none
  aNOUGHT : Addr
  cNOUGHT : ∃ u, mg "NOUGHT" = some u ∧ RelV (.ref aNOUGHT) u
  tNOUGHT : ∀ H : Hp, SqT K H aNOUGHT [.int 0, .int 1]
theorem Tops.bpower {K : PySem.W.Frag} {mg : Str → Option Value} (T : Tops K mg) : Binds K T.dpower ["base", "exponent"] [] := T.Fpower.binds (ps := ["base", "exponent"]) fun _ _ _ _ _ _ us hl => match us, hl with | [_, _], _ => rfl
theorem Tops.bgreatest_divisor {K : PySem.W.Frag} {mg : Str → Option Value} (T : Tops K mg) : Binds K T.dgreatest_divisor ["one", "other"] [] := T.Fgreatest_divisor.binds (ps := ["one", "other"]) fun _ _ _ _ _ _ us hl => match us, hl with | [_, _], _ => rfl
theorem Tops.bpart_of {K : PySem.W.Frag} {mg : Str → Option Value} (T : Tops K mg) : Binds K T.dpart_of ["over", "under"] [] := T.Fpart_of.binds (ps := ["over", "under"]) fun _ _ _ _ _ _ us hl => match us, hl with | [_, _], _ => rfl
theorem Tops.bpart_sum {K : PySem.W.Frag} {mg : Str → Option Value} (T : Tops K mg) : Binds K T.dpart_sum ["one", "other"] [] := T.Fpart_sum.binds (ps := ["one", "other"]) fun _ _ _ _ _ _ us hl => match us, hl with | [_, _], _ => rfl
theorem Tops.brow_at {K : PySem.W.Frag} {mg : Str → Option Value} (T : Tops K mg) : Binds K T.drow_at ["rows", "size"] [] := T.Frow_at.binds (ps := ["rows", "size"]) fun _ _ _ _ _ _ us hl => match us, hl with | [_, _], _ => rfl
theorem Tops.bworth {K : PySem.W.Frag} {mg : Str → Option Value} (T : Tops K mg) : Binds K T.dworth ["sums", "size"] [] := T.Fworth.binds (ps := ["sums", "size"]) fun _ _ _ _ _ _ us hl => match us, hl with | [_, _], _ => rfl
theorem Tops.bfaint_growth {K : PySem.W.Frag} {mg : Str → Option Value} (T : Tops K mg) : Binds K T.dfaint_growth ["sums", "many", "base"] [] := T.Ffaint_growth.binds (ps := ["sums", "many", "base"]) fun _ _ _ _ _ _ us hl => match us, hl with | [_, _, _], _ => rfl
theorem Tops.btold_growth {K : PySem.W.Frag} {mg : Str → Option Value} (T : Tops K mg) : Binds K T.dtold_growth ["times", "base", "figures"] [] := T.Ftold_growth.binds (ps := ["times", "base", "figures"]) fun _ _ _ _ _ _ us hl => match us, hl with | [_, _, _], _ => rfl
theorem Tops.bl_begin {K : PySem.W.Frag} {mg : Str → Option Value} (T : Tops K mg) : Binds K T.dl_begin ["_law_script"] [] := T.Fl_begin.binds (ps := ["_law_script"]) fun _ _ _ _ _ _ us hl => match us, hl with | [_], _ => rfl
theorem Tops.bl_take {K : PySem.W.Frag} {mg : Str → Option Value} (T : Tops K mg) : Binds K T.dl_take ["_law_draw", "_law_sides"] [] := T.Fl_take.binds (ps := ["_law_draw", "_law_sides"]) fun _ _ _ _ _ _ us hl => match us, hl with | [_, _], _ => rfl
theorem Tops.bl_gcd {K : PySem.W.Frag} {mg : Str → Option Value} (T : Tops K mg) : Binds K T.dl_gcd ["_law_a", "_law_b"] [] := T.Fl_gcd.binds (ps := ["_law_a", "_law_b"]) fun _ _ _ _ _ _ us hl => match us, hl with | [_, _], _ => rfl
theorem Tops.bl_lowest {K : PySem.W.Frag} {mg : Str → Option Value} (T : Tops K mg) : Binds K T.dl_lowest ["_law_over", "_law_under"] [] := T.Fl_lowest.binds (ps := ["_law_over", "_law_under"]) fun _ _ _ _ _ _ us hl => match us, hl with | [_, _], _ => rfl
theorem Tops.bl_terms {K : PySem.W.Frag} {mg : Str → Option Value} (T : Tops K mg) : Binds K T.dl_terms ["_law_draw", "_law_top", "_law_deep", "_law_wide"] [] := T.Fl_terms.binds (ps := ["_law_draw", "_law_top", "_law_deep", "_law_wide"]) fun _ _ _ _ _ _ us hl => match us, hl with | [_, _, _, _], _ => rfl
theorem Tops.bl_drawn_sums {K : PySem.W.Frag} {mg : Str → Option Value} (T : Tops K mg) : Binds K T.dl_drawn_sums ["_law_draw", "_law_top", "_law_deep", "_law_wide"] [] := T.Fl_drawn_sums.binds (ps := ["_law_draw", "_law_top", "_law_deep", "_law_wide"]) fun _ _ _ _ _ _ us hl => match us, hl with | [_, _, _, _], _ => rfl
theorem Tops.bl_plus_sums {K : PySem.W.Frag} {mg : Str → Option Value} (T : Tops K mg) : Binds K T.dl_plus_sums ["_law_draw", "_law_top", "_law_deep", "_law_wide"] [] := T.Fl_plus_sums.binds (ps := ["_law_draw", "_law_top", "_law_deep", "_law_wide"]) fun _ _ _ _ _ _ us hl => match us, hl with | [_, _, _, _], _ => rfl
theorem Tops.bl_raised {K : PySem.W.Frag} {mg : Str → Option Value} (T : Tops K mg) : Binds K T.dl_raised ["_law_part", "_law_upto"] [] := T.Fl_raised.binds (ps := ["_law_part", "_law_upto"]) fun _ _ _ _ _ _ us hl => match us, hl with | [_, _], _ => rfl
theorem Tops.bl_sums_at {K : PySem.W.Frag} {mg : Str → Option Value} (T : Tops K mg) : Binds K T.dl_sums_at ["_law_sums", "_law_size"] [] := T.Fl_sums_at.binds (ps := ["_law_sums", "_law_size"]) fun _ _ _ _ _ _ us hl => match us, hl with | [_, _], _ => rfl
theorem Tops.bl_due_growth {K : PySem.W.Frag} {mg : Str → Option Value} (T : Tops K mg) : Binds K T.dl_due_growth ["_law_sums", "_law_often", "_law_by_it"] [] := T.Fl_due_growth.binds (ps := ["_law_sums", "_law_often", "_law_by_it"]) fun _ _ _ _ _ _ us hl => match us, hl with | [_, _, _], _ => rfl
theorem Tops.bl_class {K : PySem.W.Frag} {mg : Str → Option Value} (T : Tops K mg) : Binds K T.dl_class ["_law_e"] [] := T.Fl_class.binds (ps := ["_law_e"]) fun _ _ _ _ _ _ us hl => match us, hl with | [_], _ => rfl
theorem Tops.bl_tried {K : PySem.W.Frag} {mg : Str → Option Value} (T : Tops K mg) : Binds K T.dl_tried ["_law_ask"] [] := T.Fl_tried.binds (ps := ["_law_ask"]) fun _ _ _ _ _ _ us hl => match us, hl with | [_], _ => rfl
theorem Tops.bl_same {K : PySem.W.Frag} {mg : Str → Option Value} (T : Tops K mg) : Binds K T.dl_same ["_law_found", "_law_due"] [] := T.Fl_same.binds (ps := ["_law_found", "_law_due"]) fun _ _ _ _ _ _ us hl => match us, hl with | [_, _], _ => rfl
theorem Tops.blaw {K : PySem.W.Frag} {mg : Str → Option Value} (T : Tops K mg) : ∀ (s : Shared) (v : Value), BindsTo s T.dlaw ⟨[v], []⟩ [("_law_script", v)] := by
  obtain ⟨oc, od, kV, doc, pm, an, cdv, ct, osl, e, lk, hcd⟩ := T.Flaw.ex
  intro s v
  rw [e]
  exact .of_eq rfl
section
variable {P : Program} {w : World} {K : PySem.W.Frag} {mg : Str → Option Value} {base : Heap}
theorem ok_begin (T : Tops K mg) : FnOk P w K mg base CX0 1 T.fl_begin T.dl_begin ["_law_script"] (spBegin K) := by
  refine T.Fl_begin.ok scl_begin (fun vs H Q E h => ?_) (fun cdv A outer s H vs Q E hr h => ?_)
  · obtain ⟨a, ns, rfl, _⟩ := h
    rfl
  obtain ⟨a, ns, rfl, hS, q⟩ := h
  refine ⟨_, (pss_one (ps_ret (pe_lst (pa_cons (pe_callTy call_list_of (by rfl) T.mlist (by decide +kernel) (pa_cons (pe_slice sl_list (pv 0) po_none (po_some pe_int)) pa_nil)) (pa_cons pe_int (pa_cons pe_int (pa_cons pe_int pa_nil))))))), ?_⟩
  refine ⟨_, rfl, 63, rfl, a, _, rfl, hS, fun p np => ?_⟩
  obtain ⟨ms, hms⟩ := cut_map ns none (some 63)
  refine ⟨p, _, rfl, .inl (SqL.of upd_same), fun L nL => ?_⟩
  refine ⟨(by show 4 ≤ sizeLine; decide), fun d nd => ?_⟩
  have nL0 : H L = none := (same_new np).free nL
  have s3 : Same H (upd (upd (upd H p (.lst (cutV (ns.map V.int) none (some 63)))) L (.lst (cutV (ns.map V.int) none (some 63)))) d (.lst [.ref L, .int 0, .int 0, .int 37])) :=
    ((same_new np).trans (same_new nL)).trans (same_new nd)
  have nd0 : H d = none := ((same_new np).trans (same_new nL)).free nd
  refine q d L _ s3 nd0 nL0 ⟨ms, 0, 0, 37, upd_same, ?_, by decide, by decide, by decide, by decide⟩
  rw [upd_ne (ne_of_none (upd_same) nd), upd_same, hms]
theorem ok_takeW (T : Tops K mg) : FnOk P w K mg base CX0 1 T.fl_take T.dl_take ["_law_draw", "_law_sides"] spTakeW := by
  refine T.Fl_take.ok scl_take (fun vs H Q E h => ?_) (fun cdv A outer s H vs Q E hr h => ?_)
  · obtain ⟨d, L, k, rfl, _⟩ := h
    rfl
  obtain ⟨d, L, k, rfl, hD, k1, k2, q⟩ := h
  refine ⟨_, (pss_cut (ps_if (PW.pt (pw_and (pt_cmpR op_lt (pe_ix ix_list (pv 0) pe_int (fun _ _ => rfl)) (pv 1) (nomark _)) (pw_and1 (pt_cmpR op_lt (pe_ix ix_list (pv 0) pe_int (fun _ _ => rfl)) (pe_callB call_len_seq (by rfl) T.mlen PySem.boot_len (pa_cons (pe_ix ix_list (pv 0) pe_int (fun _ _ => rfl)) pa_nil)) (nomark _)))))
  (pss_cons (ps_set (i := 2) scl_take.nd rfl (Or.inl rfl) (pe_ix ix_list (pe_ix ix_list (pv 0) pe_int (fun _ _ => rfl)) (pe_ix ix_list (pv 0) pe_int (fun _ _ => rfl)) (fun _ _ => rfl)))
 (pss_cons (ps_asg (pe_op op_add (pe_ix ix_list (pv 0) pe_int (fun _ _ => rfl)) pe_int) (pg_sub (pv 0) pe_int set_list))
 (pss_cons (ps_asg pe_int (pg_sub (pv 0) pe_int set_list))
 (pss_one (ps_if (pt_cmpR op_ge (pe_callB call_abs (by rfl) T.mabs (by decide +kernel) (pa_cons (pv 2) pa_nil)) (pe_op op_pow pe_int pe_int) (nomark _))
  (pss_one (ps_asg (pe_callB call_abs (by rfl) T.mabs (by decide +kernel) (pa_cons (pv 2) pa_nil)) (pg_sub (pv 0) pe_int set_list)))
  (pss_one (ps_asg (pe_op op_mod (pe_op op_add (pe_op op_add (pe_op op_mul (pe_ix ix_list (pv 0) pe_int (fun _ _ => rfl)) pe_int) (pe_op op_mul (pe_op op_mod (pv 2) pe_int) pe_int)) pe_int) pe_int) (pg_sub (pv 0) pe_int set_list))))))))
  pss_nil)
 (pss_cons (ps_if (pt_cmpR op_ge (pe_ix ix_list (pv 0) pe_int (fun _ _ => rfl)) (pv 1) (nomark _))
  (pss_cons (ps_set (i := 3) scl_take.nd rfl (Or.inl rfl) (pe_op op_mod (pe_ix ix_list (pv 0) pe_int (fun _ _ => rfl)) (pv 1)))
 (pss_cons (ps_asg (pe_op op_fdivW (pe_ix ix_list (pv 0) pe_int (fun _ _ => rfl)) (pv 1)) (pg_sub (pv 0) pe_int set_list))
 (pss_one (ps_ret (pv 3)))))
  pss_nil)
 (pss_cons (ps_asg (pe_op op_mod (pe_op op_add (pe_op op_add (pe_op op_mul (pe_op op_mod (pe_op op_mul (pe_ix ix_list (pv 0) pe_int (fun _ _ => rfl)) (pe_ix ix_list (pv 0) pe_int (fun _ _ => rfl))) pe_int) pe_int) (pe_op op_mul (pe_ix ix_list (pv 0) pe_int (fun _ _ => rfl)) pe_int)) pe_int) pe_int) (pg_sub (pv 0) pe_int set_list))
 (pss_one (ps_ret (pe_op op_mod (pe_op op_add (pe_op op_fdiv (pe_ix ix_list (pv 0) pe_int (fun _ _ => rfl)) pe_int) (pe_op op_mul (pe_op op_mod (pe_ix ix_list (pv 0) pe_int (fun _ _ => rfl)) pe_int) pe_int)) (pv 1))))))), ?_⟩
  have hne := hD.ne
  refine ⟨fun σ' H' => (∃ x y, σ' = [some (.ref d), some (.int k), x, y]) ∧ Dr H' d L ∧ But d H H', ?_, ?_⟩
  · obtain ⟨ns, i, r, s, hd, hL, i0, r0, s0, s1⟩ := id hD
    refine ⟨_, rfl, d, _, 2, _, rfl, rfl, SqL.of hd, rfl, _, rfl, r, k, rfl, rfl, _, rfl, ite2 (fun c1 => ?_) (fun c1 => ?_)⟩
    · refine ⟨_, rfl, d, _, 1, _, rfl, rfl, SqL.of hd, rfl, _, rfl, d, _, 0, _, rfl, rfl, SqL.of hd, rfl, L, _, rfl, .inl (SqL.of hL), i, _, rfl, rfl, _, rfl, ite2 (fun c2 => ?_) (fun c2 => ?_)⟩
      · have c3 : i < ((ns.map V.int).length : Int) := of_decide_eq_true c2
        obtain ⟨v, hv, hm⟩ := atI_lt (xs := ns.map V.int) i0 c3
        obtain ⟨n, _, rfl⟩ := List.mem_map.mp hm
        refine ⟨_, rfl, d, _, 0, _, rfl, rfl, SqL.of hd, rfl, _, rfl, d, _, 1, _, rfl, rfl, SqL.of hd, rfl, L, _, i, _, rfl, rfl, SqL.of hL, hv, ?_⟩
        refine ⟨_, rfl, d, _, 1, _, rfl, rfl, SqL.of hd, rfl, i, 1, rfl, rfl, _, rfl, d, _, 1, 1, rfl, rfl, hd, rfl, ?_⟩
        refine ⟨_, rfl, d, _, 2, 2, rfl, rfl, upd_same, rfl, ?_⟩
        rw [upd_upd]
        refine ⟨_, rfl, n, rfl, 10, 18, rfl, rfl, ⟨by decide, by decide, by decide⟩, _, _, rfl, rfl, _, rfl, ite2 (fun c4 => ?_) (fun c4 => ?_)⟩
        · refine ⟨_, rfl, n, rfl, _, rfl, d, _, 2, 2, rfl, rfl, upd_same, rfl, ?_⟩
          rw [upd_upd]
          exact ⟨⟨_, _, rfl⟩, dr_set hL hne (by omega) (by split <;> omega) s0 s1, but_upd⟩
        · refine ⟨_, rfl, d, _, 3, _, rfl, rfl, SqL.of upd_same, rfl, s, 48271, rfl, rfl, .inr ⟨by decide, by decide⟩, _, rfl, n, 2147483629, rfl, rfl, (show (0 : Int) < 2147483629 by decide), _, 69621, rfl, rfl, .inr ⟨by decide, by decide⟩, _, _, rfl, rfl, _, 12345, rfl, rfl, _, 2147483647, rfl, rfl, (show (0 : Int) < 2147483647 by decide), _, rfl, d, _, 3, 3, rfl, rfl, upd_same, rfl, ?_⟩
          rw [upd_upd]
          have z := mod_lt (a := s * 48271 + n % 2147483629 * 69621 + 12345) (k := 2147483647) (by decide)
          exact ⟨⟨_, _, rfl⟩, dr_set hL hne (by omega) (Int.le_refl 0) z.1 z.2, but_upd⟩
      · exact ⟨⟨_, _, rfl⟩, hD, But.refl d H⟩
    · exact ⟨⟨_, _, rfl⟩, hD, But.refl d H⟩
  · rintro σ' H' ⟨⟨x, y, rfl⟩, hD', hB⟩
    obtain ⟨ns, i, r, s, hd, hL, i0, r0, s0, s1⟩ := id hD'
    refine ⟨_, rfl, d, _, 2, _, rfl, rfl, SqL.of hd, rfl, _, rfl, r, k, rfl, rfl, _, rfl, ite2 (fun c1 => ?_) (fun c1 => ?_)⟩
    · refine ⟨_, rfl, d, _, 2, _, rfl, rfl, SqL.of hd, rfl, _, rfl, r, k, rfl, rfl, (show (0 : Int) < k by omega), ?_⟩
      refine ⟨_, rfl, d, _, 2, _, rfl, rfl, SqL.of hd, rfl, _, rfl, r, k, rfl, rfl, wide_div (by omega) (b := 200) (by omega) (by decide) (by decide), _, rfl, d, _, 2, 2, rfl, rfl, hd, rfl, ?_⟩
      have z := mod_lt (a := r) k1
      refine ⟨_, rfl, q _ _ z.1 z.2 (dr_set hL hne i0 (Int.ediv_nonneg r0 (by omega)) s0 s1) (hB.trans but_upd)⟩
    · refine ⟨_, rfl, d, _, 3, _, rfl, rfl, SqL.of hd, rfl, _, rfl, d, _, 3, _, rfl, rfl, SqL.of hd, rfl, s, s, rfl, rfl, .inl ⟨by omega, by omega⟩, _, 2147483629, rfl, rfl, (show (0 : Int) < 2147483629 by decide), _, 5, rfl, rfl, .inr ⟨by decide, by decide⟩,
        _, rfl, d, _, 3, _, rfl, rfl, SqL.of hd, rfl, s, 16811, rfl, rfl, .inr ⟨by decide, by decide⟩, _, _, rfl, rfl, _, 2531011, rfl, rfl, _, 2147483647, rfl, rfl, (show (0 : Int) < 2147483647 by decide), _, rfl, d, _, 3, 3, rfl, rfl, hd, rfl, ?_⟩
      have z := mod_lt (a := s * s % 2147483629 * 5 + s * 16811 + 2531011) (k := 2147483647) (by decide)
      refine ⟨_, rfl, d, _, 3, _, rfl, rfl, SqL.of upd_same, rfl, _, 61, rfl, rfl, ⟨by decide, by decide⟩, _, rfl, d, _, 3, _, rfl, rfl, SqL.of upd_same, rfl, _, 8191, rfl, rfl, (show (0 : Int) < 8191 by decide), _, 31, rfl, rfl, .inr ⟨by decide, by decide⟩, _, _, rfl, rfl, _, rfl, _, k, rfl, rfl, (show (0 : Int) < k by omega), ?_⟩
      exact q _ _ (mod_lt k1).1 (mod_lt k1).2 (dr_set hL hne i0 r0 z.1 z.2) (hB.trans but_upd)
theorem ok_take (T : Tops K mg) : FnOk P w K mg base CX0 1 T.fl_take T.dl_take ["_law_draw", "_law_sides"] spTake := (ok_takeW T).imp take_of_wide
end
end K14

set_option Elab.async false
set_option linter.all false
set_option maxRecDepth 100000
set_option maxHeartbeats 4000000
namespace K14
open PySem PySem.Spec PyProof.Rows L2 OG
open C8 (pss_cut pe_gc)
open OGX

section
variable {P : Program} {w : World} {K : PySem.W.Frag} {mg : Str → Option Value} {base : Heap}
theorem ok_l_gcd (T : Tops K mg) : FnOk P w K mg base CX0 1 T.fl_gcd T.dl_gcd ["_law_a", "_law_b"] spGcd := by
  refine T.Fl_gcd.ok (k := 0) scl_gcd (fun vs H Q E h => ?_) (fun cdv A outer s H vs Q E hr h => ?_)
  · obtain ⟨a, b, rfl, _⟩ := h
    rfl
  obtain ⟨a, b, rfl, q⟩ := h
  refine ⟨_, (pss_cons (ps_par (i := 0) (j := 1) (by rfl) scl_gcd.nd rfl rfl (by decide) rfl rfl (pa_cons (pe_callB call_abs (by rfl) T.mabs (by decide +kernel) (pa_cons (pv 0) pa_nil)) (pa_cons (pe_callB call_abs (by rfl) T.mabs (by decide +kernel) (pa_cons (pv 1) pa_nil)) pa_nil)) (by rfl))
 (pss_cons (ps_while PassesOwn.never (pt_cmpR op_gt (pv 1) pe_int (nomark _))
  (pss_one (ps_par (i := 0) (j := 1) (by rfl) scl_gcd.nd rfl rfl (by decide) rfl rfl (pa_cons (pv 1) (pa_cons (pe_op op_mod (pv 0) (pv 1)) pa_nil)) (by rfl))))
 (pss_one (ps_ret (pv 0))))), ?_⟩
  refine ⟨_, rfl, a, rfl, _, rfl, b, rfl, _, _, rfl, ?_⟩
  have ab : ∀ x : Int, (if x < 0 then -x else x) = ((x.natAbs : Nat) : Int) := fun x => by split <;> omega
  rw [ab a, ab b]
  refine ⟨fun m σ H' => H' = H ∧ ∃ x y : Nat, σ = [some (.int x), some (.int y)] ∧ Nat.gcd x y = Nat.gcd a.natAbs b.natAbs ∧ y = m, ⟨_, rfl, _, _, rfl, rfl, rfl⟩, ?_⟩
  rintro m σ H' ⟨rfl, x, y, rfl, hg, rfl⟩
  refine ⟨_, rfl, _, 0, rfl, rfl, _, rfl, ite2 (fun c => ?_) (fun c => ?_)⟩
  · have hy : (0 : Int) < (y : Int) := of_decide_eq_true c
    refine ⟨fun σ' H2 => H2 = H' ∧ σ' = [some (.int y), some (.int ((x % y : Nat) : Int))], ?_, ?_⟩
    · rintro σ2 H2 ⟨rfl, rfl⟩
      refine ⟨x % y, Nat.mod_lt _ (by omega), rfl, y, x % y, rfl, ?_, rfl⟩
      rw [Nat.gcd_comm y (x % y), ← Nat.gcd_rec, Nat.gcd_comm]
      exact hg
    · exact ⟨_, rfl, _, rfl, _, rfl, _, _, rfl, rfl, hy, _, _, rfl, rfl, rfl⟩
  · have hy : y = 0 := by
      have : ¬ (0 : Int) < (y : Int) := fun z => c (decide_eq_true z)
      omega
    subst hy
    rw [Nat.gcd_zero_right] at hg
    refine ⟨_, rfl, ?_⟩
    rw [hg]
    exact q
theorem gcd_big {o u : Int} (h1 : 1 ≤ u) (h2 : u.natAbs < 2 ^ 8000) {i : Int} : CDivW i ((Int.gcd o u : Nat) : Int) := by
  have hp : 0 < Int.gcd o u := Int.gcd_pos_of_ne_zero_right _ (by omega)
  have hle : Int.gcd o u ≤ u.natAbs := Nat.le_of_dvd (by omega) (Nat.gcd_dvd_right o.natAbs u.natAbs)
  exact wide_div (b := 8000) (Int.ofNat_lt.mpr hp) (Nat.lt_of_le_of_lt hle h2) (by decide) (by decide)
theorem ok_l_lowest (T : Tops K mg) : FnOk P w K mg base CX0 2 T.fl_lowest T.dl_lowest ["_law_over", "_law_under"] spLowest := by
  have Gl_gcd : FnOk P w K mg base CX0 1 T.fl_gcd T.dl_gcd ["_law_a", "_law_b"] spGcd := ok_l_gcd T
  refine T.Fl_lowest.ok (k := 1) scl_lowest (fun vs H Q E h => ?_) (fun cdv A outer s H vs Q E hr h => ?_)
  · obtain ⟨o, u, rfl, _⟩ := h
    rfl
  obtain ⟨o, u, rfl, h1, h2, q⟩ := h
  refine ⟨_, (pss_cons (ps_set (i := 2) scl_lowest.nd rfl (Or.inl rfl) (pe_call Gl_gcd (hr.mono (by omega)) (by rfl) T.gl_gcd T.Fl_gcd.kp T.bl_gcd .nil pass0 (pa_cons (pv 0) (pa_cons (pv 1) pa_nil))))
 (pss_one (ps_ret (pe_tup (pa_cons (pe_op op_fdivW (pv 0) (pv 2)) (pa_cons (pe_op op_fdivW (pv 1) (pv 2)) pa_nil)))))), ?_⟩
  refine ⟨_, rfl, _, rfl, o, u, rfl, ?_⟩
  refine ⟨_, rfl, _, rfl, _, _, rfl, rfl, gcd_big h1 h2, _, rfl, _, rfl, _, _, rfl, rfl, gcd_big h1 h2, (by show 2 ≤ sizeLine; decide), fun t nt => ?_⟩
  exact q _ _ (same_new nt) (rp_tup upd_same (rpl_cons rfl (rpl_cons rfl rpl_nil)))
end
end K14

set_option Elab.async false
set_option linter.all false
set_option maxRecDepth 100000
set_option maxHeartbeats 4000000
namespace K14
open PySem PySem.Spec PyProof.Rows L2 OG
open C8 (pss_cut pe_gc)
open OGX

section
variable {P : Program} {w : World} {K : PySem.W.Frag} {mg : Str → Option Value} {base : Heap}
theorem falls_of {kl : List (Int × Int)} (h1 : kl.Pairwise fun a b => SrtO.lexB b a = false) (h2 : kl.Nodup) {ts : List Term} (e : ts.map (·.1) = kl.reverse) : Falls ts := by
  have h3 : kl.Pairwise fun a b => SrtO.lexB a b = true := by
    refine List.Pairwise.imp₂ (fun a b x y => ?_) h1 h2
    rw [SrtO.lexB_iff]
    have n := SrtO.lexB_no.mp x
    have ne : ¬ (a.1 = b.1 ∧ a.2 = b.2) := fun z => y (Prod.ext z.1 z.2)
    omega
  have h4 : (ts.map (·.1)).Pairwise fun x y => SrtO.lexB y x = true := by
    rw [e, List.pairwise_reverse]
    exact h3
  exact List.pairwise_map.mp h4
theorem low_ok {o u top deep wide : Int} {p : Int × Int} (hu : u = 1 ∨ u = 2) (ho : o ≠ 0) (hw : o.natAbs ≤ wide.toNat) (p0 : 0 ≤ p.1) (p1 : p.1 ≤ top) (f0 : 0 ≤ p.2) (f1 : p.2 ≤ deep) : TermOk top deep wide (p, lowOf o u) := by
  have hp : 0 < Int.gcd o u := Int.gcd_pos_of_ne_zero_right _ (by omega)
  have hle : Int.gcd o u ≤ u.natAbs := Nat.le_of_dvd (by omega) (Nat.gcd_dvd_right o.natAbs u.natAbs)
  have h12 : Int.gcd o u = 1 ∨ (Int.gcd o u = 2 ∧ u = 2) := by omega
  rcases h12 with h | ⟨h, h2⟩
  · have e : lowOf o u = (o, u) := by unfold lowOf; rw [h]; simp
    rw [e]
    exact ⟨p0, p1, f0, f1, ho, hw, by show 1 ≤ u; omega, by show u ≤ 2; omega⟩
  · have hd : (2 : Int) ∣ o := by
      have := Int.gcd_dvd_left (a := o) (b := u)
      rw [h] at this
      exact this
    have e : lowOf o u = (o / 2, 1) := by unfold lowOf; rw [h, h2]; rfl
    rw [e]
    obtain ⟨k, rfl⟩ := hd
    have e2 : (2 * k) / 2 = k := by omega
    rw [e2]
    exact ⟨p0, p1, f0, f1, by show k ≠ 0; omega, by show k.natAbs ≤ wide.toNat; omega, by show (1 : Int) ≤ 1; omega, by show (1 : Int) ≤ 2; omega⟩
theorem ok_l_terms (T : Tops K mg) : FnOk P w K mg base CX0 3 T.fl_terms T.dl_terms ["_law_draw", "_law_top", "_law_deep", "_law_wide"] spTerms := by
  have Gl_take : FnOk P w K mg base CX0 1 T.fl_take T.dl_take ["_law_draw", "_law_sides"] spTakeW := ok_takeW T
  have Gl_lowest : FnOk P w K mg base CX0 2 T.fl_lowest T.dl_lowest ["_law_over", "_law_under"] spLowest := ok_l_lowest T
  refine T.Fl_terms.ok (k := 2) scl_terms (fun vs H Q E h => ?_) (fun cdv A outer s H vs Q E hr h => ?_)
  · obtain ⟨d, L, top, deep, wide, rfl, _⟩ := h
    rfl
  obtain ⟨d, L, top, deep, wide, rfl, hD, t0, t9, d0, d9, w1, w2, q⟩ := h
  refine ⟨_, (pss_cons (ps_set (i := 4) scl_terms.nd rfl (Or.inr rfl) pe_dnewT)
 (pss_cons (ps_for PassesOwn.never rfl (pi_range1 (by rfl) T.mrange (pa_cons (pe_call Gl_take (hr.mono (by omega)) (by rfl) T.gl_take T.Fl_take.kp T.bl_take .nil pass0 (pa_cons (pv 0) (pa_cons pe_int pa_nil))) pa_nil)) (pg_name (i := 5) scl_terms.nd rfl (Or.inl rfl))
  (pss_cons (ps_set (i := 6) scl_terms.nd rfl (Or.inl rfl) (pe_op op_mul (pe_ix ix_list (pe_lst (pa_cons pe_int (pa_cons (pe_un un_neg pe_int) pa_nil))) (pe_call Gl_take (hr.mono (by omega)) (by rfl) T.gl_take T.Fl_take.kp T.bl_take .nil pass0 (pa_cons (pv 0) (pa_cons pe_int pa_nil))) (fun _ _ => rfl)) (pe_op op_add pe_int (pe_call Gl_take (hr.mono (by omega)) (by rfl) T.gl_take T.Fl_take.kp T.bl_take .nil pass0 (pa_cons (pv 0) (pa_cons (pv 3) pa_nil))))))
 (pss_cons (ps_set (i := 7) scl_terms.nd rfl (Or.inl rfl) (pe_tup (pa_cons (pe_call Gl_take (hr.mono (by omega)) (by rfl) T.gl_take T.Fl_take.kp T.bl_take .nil pass0 (pa_cons (pv 0) (pa_cons (pe_op op_add (pv 1) pe_int) pa_nil))) (pa_cons (pe_call Gl_take (hr.mono (by omega)) (by rfl) T.gl_take T.Fl_take.kp T.bl_take .nil pass0 (pa_cons (pv 0) (pa_cons (pe_op op_add (pv 2) pe_int) pa_nil))) pa_nil))))
 (pss_one (ps_dput (hu_of hr) (pv 4) (pv 7) (pe_call Gl_lowest (hr.mono (by omega)) (by rfl) T.gl_lowest T.Fl_lowest.kp T.bl_lowest .nil pass0 (pa_cons (pv 6) (pa_cons (pe_op op_add pe_int (pe_call Gl_take (hr.mono (by omega)) (by rfl) T.gl_take T.Fl_take.kp T.bl_take .nil pass0 (pa_cons (pv 0) (pa_cons (pe_ix ix_list (pe_lst (pa_cons pe_int (pa_cons pe_int (pa_cons pe_int pa_nil)))) (pe_call Gl_take (hr.mono (by omega)) (by rfl) T.gl_take T.Fl_take.kp T.bl_take .nil pass0 (pa_cons (pv 0) (pa_cons pe_int pa_nil))) (fun _ _ => rfl)) pa_nil)))) pa_nil))) rfl)))))
 (pss_one (ps_ret (pe_lc (own := [("_law_key", 7)]) rfl scl_terms.nd (pi_list (pe_revL (pe_callB (call_sortedDT rfl) (by rfl) T.msorted (by decide +kernel) (pa_cons (pv 4) pa_nil)))) (blkOk_by (N := Nl_terms) (sc := defScope sl_terms) (by decide +kernel)) (fun _ _ _ _ _ => (pg_name (i := 7) scl_terms.nd rfl (Or.inl rfl))) (fun _ _ _ _ _ => pts_nil) (fun _ _ _ _ _ => (pe_tup (pa_cons (pv 7) (pa_cons (pe_dget (hu_of hr) (pv 4) (pv 7) (fun _ _ => rfl)) pa_nil))))))))), ?_⟩
  have big : ∀ x : Int, x < 2 ^ 100 → x < 2 ^ 200 := fun x h => by omega
  refine fun F nF => ?_
  have nFd := hD.neNew nF
  refine ⟨_, rfl, d, L, 4, rfl, hD.new nF, by decide, by decide, fun g H1 g0 g1 hD1 hB1 => ?_⟩
  have hF1 : H1 F = some (.dT []) := by
    rw [hB1 F nFd.1]
    exact upd_same
  have G1 : Go (· = d) H H1 := ((Go.refl _ H).new nF).trans (Go.but (hD.new nF) hB1 rfl)
  refine ⟨g, rfl, by omega, by omega, ?_⟩
  refine for_range (lo := 0) (n := g.toNat) (fun i σ H' => (∃ x5 x6 x7, σ = [some (.ref d), some (.int top), some (.int deep), some (.int wide), some (.ref F), x5, x6, x7]) ∧ Dr H' d L ∧ Go (· = d) H H' ∧ TDict H' F (fun p o => TermOk top deep wide (p, o)) i)
    ⟨⟨_, _, _, rfl⟩, hD1, G1, [], [], hF1, rfl, by simp, by simp, (fun _ h => by cases h)⟩ (fun i σ H2 hi hP => ?_) (fun σ H2 hP => ?_)
  · obtain ⟨⟨x5, x6, x7, rfl⟩, hD2, G2, hT2⟩ := hP
    -- over
    refine ⟨1, rfl, (by show 2 ≤ sizeLine; decide), fun l nl => ?_⟩
    refine ⟨_, rfl, d, L, 2, rfl, hD2.new nl, by decide, by decide, fun g3 H3 a3 b3 hD3 hB3 => ?_⟩
    have G23 : Go (· = d) H2 H3 := ((Go.refl _ H2).new nl).trans (Go.but (hD2.new nl) hB3 rfl)
    have hl : H3 l = some (.lst [.int 1, .int (-1)]) := by
      rw [hB3 l (hD2.neNew nl).1]
      exact upd_same
    obtain ⟨v3, hv3, hm3⟩ := atI_lt (xs := [V.int 1, .int (-1)]) a3 b3
    obtain ⟨s3, rfl, hs3⟩ := mem_ints2 hm3
    refine ⟨l, _, g3, _, rfl, rfl, SqL.of hl, hv3, ?_⟩
    refine ⟨_, rfl, _, rfl, d, L, wide, rfl, hD3, w1, big wide w2, fun g4 H4 a4 b4 hD4 hB4 => ?_⟩
    have G24 := G23.trans (Go.but hD3 hB4 (M := (· = d)) rfl)
    refine ⟨1, g4, rfl, rfl, s3, 1 + g4, rfl, rfl, .inl ⟨by omega, by omega⟩, ?_⟩
    -- key
    refine ⟨_, rfl, _, rfl, _, _, rfl, rfl, d, L, top + 1, rfl, hD4, by omega, by omega, fun p1 H5 a5 b5 hD5 hB5 => ?_⟩
    have G25 := G24.trans (Go.but hD4 hB5 (M := (· = d)) rfl)
    refine ⟨_, rfl, _, rfl, _, _, rfl, rfl, d, L, deep + 1, rfl, hD5, by omega, by omega, fun p2 H6 a6 b6 hD6 hB6 => ?_⟩
    have G26 := G25.trans (Go.but hD5 hB6 (M := (· = d)) rfl)
    refine ⟨(by show 2 ≤ sizeLine; decide), fun kx nkx => ?_⟩
    have hkx : (upd H6 kx (.tup [.int p1, .int p2])) kx = some (.tup [.int p1, .int p2]) := upd_same
    have G27 := G26.new (o := .tup [.int p1, .int p2]) nkx
    have hD7 := hD6.new (o := .tup [.int p1, .int p2]) nkx
    -- part
    refine ⟨_, rfl, _, rfl, (by show 3 ≤ sizeLine; decide), fun l2 nl2 => ?_⟩
    refine ⟨_, rfl, d, L, 3, rfl, hD7.new nl2, by decide, by decide, fun g8 H8 a8 b8 hD8 hB8 => ?_⟩
    have G78 : Go (· = d) (upd H6 kx (.tup [.int p1, .int p2])) H8 := ((Go.refl _ _).new nl2).trans (Go.but (hD7.new nl2) hB8 rfl)
    have hl2 : H8 l2 = some (.lst [.int 1, .int 1, .int 2]) := by
      rw [hB8 l2 (hD7.neNew nl2).1]
      exact upd_same
    obtain ⟨v8, hv8, hm8⟩ := atI_lt (xs := [V.int 1, .int 1, .int 2]) a8 b8
    obtain ⟨m8, rfl, hs8⟩ := mem_ints3 hm8
    refine ⟨l2, _, g8, _, rfl, rfl, SqL.of hl2, hv8, ?_⟩
    refine ⟨d, L, m8, rfl, hD8, by omega, by omega, fun g9 H9 a9 b9 hD9 hB9 => ?_⟩
    have G79 := G78.trans (Go.but hD8 hB9 (M := (· = d)) rfl)
    refine ⟨1, g9, rfl, rfl, s3 * (1 + g4), 1 + g9, rfl, by omega, ?_, fun v H10 s10 hR10 => ?_⟩
    · have h3 : (1 + g9).natAbs < 2 ^ 2 := by omega
      exact Nat.lt_of_lt_of_le h3 (Nat.pow_le_pow_right (by decide) (by decide))
    have G70 := G79.trans (Go.same s10)
    have G2a : Go (· = d) H2 H10 := G27.trans G70
    have hk10 : H10 kx = some (.tup [.int p1, .int p2]) := G70.im _ _ hkx
    have hT10 : TDict H10 F (fun p o => TermOk top deep wide (p, o)) i := by
      obtain ⟨kvs, ks, h1, _⟩ := id hT2
      refine hT2.to ?_ G2a.im
      rw [h1]
      exact G2a.at h1 nFd.1
    obtain ⟨kvs, ks, hF10, hkk, _, hkl, _⟩ := id hT10
    have lkv : kvs.length ≤ 3 := by
      have := congrArg List.length hkk
      rw [List.length_map, List.length_map] at this
      omega
    refine ⟨_, rfl, _, rfl, F, _, rfl, DPut.t (k := pairK (p1, p2)) hF10 hk10 (szl (by omega)), ?_⟩
    have hok : TermOk top deep wide ((p1, p2), lowOf (s3 * (1 + g4)) (1 + g9)) := by
      refine low_ok (by omega) ?_ ?_ a5 (by show p1 ≤ top; omega) a6 (by show p2 ≤ deep; omega)
      · rcases hs3 with rfl | rfl <;> omega
      · rcases hs3 with rfl | rfl <;> omega
    exact ⟨⟨_, _, _, rfl⟩, ((hD9.same s10).upd nFd.1 nFd.2), (G2.trans G2a).own nF, hT10.put hF10 hR10 hok⟩
  · obtain ⟨⟨x5, x6, x7, rfl⟩, hD2, G2, hT2⟩ := hP
    obtain ⟨kvs, ks, hF2, hkk, hnd, hkl, hks⟩ := id hT2
    refine ⟨_, rfl, F, kvs, ks, rfl, .inl hF2, hkk, fun bs p hperm hbs hsrt np => ?_⟩
    refine ⟨p, _, rfl, SqL.of upd_same, fun r nr => ?_⟩
    refine ⟨r, rfl, ⟨_, SqL.of upd_same⟩, fun O nO => ?_⟩
    have s3 : Same H2 (upd H2 p (.lst (bs.map V.ref))) := same_new np
    have s4 := s3.trans (same_new (o := .lst (bs.map V.ref).reverse) nr)
    have lbs : bs.length ≤ 3 := by
      have := hperm.length_eq
      rw [List.length_map] at this
      omega
    have nOd := (hD2.same s4).neNew nO
    refine lc_list (xs := (bs.map V.ref).reverse) (fun i H' => Same (upd (upd H2 p (.lst (bs.map V.ref))) r (.lst (bs.map V.ref).reverse)) H' ∧ ∃ (us : List V) (ts : List Term), H' O = some (.lst us) ∧ RpL H' us (ts.map encT) ∧ ts.map (·.1) = ((bs.map (keyAt H2)).reverse.take i) ∧ (∀ t ∈ ts, TermOk top deep wide t))
      ⟨same_new nO, [], [], upd_same, rpl_nil, rfl, (fun _ h => by cases h)⟩ (fun i H' _ hP => SqL.of (hP.1 _ _ upd_same)) (fun i x H5 hx hP => ?_) (fun H5 hP => ?_)
    · obtain ⟨s5, us, ts, hO5, hR5, hkeys, hok⟩ := hP
      have hx2 : ∃ b, bs.reverse[i]? = some b ∧ x = .ref b := by
        rw [← List.map_reverse, List.getElem?_map] at hx
        cases hb : bs.reverse[i]? with
        | none => rw [hb] at hx; cases hx
        | some b => rw [hb] at hx; exact ⟨b, rfl, (Option.some.inj hx).symm⟩
      obtain ⟨b, hb, rfl⟩ := hx2
      have hbm : b ∈ bs := List.mem_reverse.mp (List.mem_of_getElem? hb)
      have hbt := hbs b hbm
      have hin : keyAt H2 b ∈ ks := hperm.mem_iff.mp (List.mem_map.mpr ⟨b, hbm, rfl⟩)
      obtain ⟨v, o, hval, hRv, hPv⟩ := hks _ hin
      have s25 := s4.trans s5
      have hget : DGet H5 F (.ref b) (some v) := by
        have := DGet.t (k := pairK (keyAt H2 b)) (s25 _ _ hF2) (s25 _ _ hbt)
        rw [hval] at this
        exact this
      refine ⟨rfl, yes_go ?_⟩
      refine ⟨_, rfl, _, rfl, _, rfl, F, v, rfl, hget, (by show 2 ≤ sizeLine; decide), fun t nt => ?_⟩
      have s6 : Same H5 (upd H5 t (.tup [.ref b, v])) := same_new nt
      have hO6 := s6 _ _ hO5
      have hlt : i < bs.length := by
        obtain ⟨h, _⟩ := List.getElem?_eq_some_iff.mp hb
        rw [List.length_reverse] at h
        exact h
      have lts : us.length = ts.length := by rw [hR5.length, List.length_map]
      have lts2 : ts.length = i := by
        have := congrArg List.length hkeys
        rw [List.length_map, List.length_take, List.length_reverse, List.length_map] at this
        omega
      have iO : Imm (upd H5 t (.tup [.ref b, v])) (upd (upd H5 t (.tup [.ref b, v])) O (.lst (us ++ [.ref t]))) := (Imm.refl _).upd fun xs e => by rw [hO6] at e; cases e
      refine ⟨us, hO6, szl (by omega), Same.upd_new (s5.trans s6) nO, us ++ [.ref t], ts ++ [(keyAt H2 b, o)], upd_same, ?_, ?_, fun z hz => ?_⟩
      · rw [List.map_append]
        refine (hR5.to ((Imm.same s6).trans iO)).append (rpl_cons ?_ rpl_nil)
        refine rp_tup (iO _ _ upd_same) (rpl_cons ?_ (rpl_cons ?_ rpl_nil))
        · exact rp_tup (iO _ _ (s6 _ _ (s25 _ _ hbt))) (rpl_cons rfl (rpl_cons rfl rpl_nil))
        · exact (hRv.to (Imm.same (s25.trans s6))).to iO
      · rw [List.map_append, hkeys, List.take_add_one]
        have : (bs.map (keyAt H2)).reverse[i]? = some (keyAt H2 b) := by rw [← List.map_reverse, List.getElem?_map, hb]; rfl
        rw [this]
        rfl
      · rcases List.mem_append.mp hz with h1 | h1
        · exact hok z h1
        · rw [List.mem_singleton.mp h1]
          exact hPv
    · obtain ⟨s5, us, ts, hO5, hR5, hkeys, hok⟩ := hP
      rw [List.length_reverse, List.length_map] at hkeys
      have hkeys2 : ts.map (·.1) = (bs.map (keyAt H2)).reverse := by
        rw [hkeys]
        exact List.take_of_length_le (by rw [List.length_reverse, List.length_map]; exact Nat.le_refl _)
      have lts : ts.length ≤ 3 := by
        have := congrArg List.length hkeys2
        rw [List.length_map, List.length_reverse, List.length_map] at this
        omega
      have s25 := s4.trans s5
      have hnd2 : (bs.map (keyAt H2)).Nodup := hperm.symm.nodup hnd
      have hfree : H O = none := by
        cases hO : H O with
        | none => rfl
        | some u =>
          have := (G2.trans (Go.same s4)).at hO nOd.1
          rw [nO] at this
          cases this
      exact q O ts H5 hfree nOd.1 ⟨us, hO5, hR5⟩ hok lts (falls_of (List.pairwise_map.mpr hsrt) hnd2 hkeys2) (hD2.same s25) (G2.trans (Go.same s25))
end
end K14

set_option Elab.async false
set_option linter.all false
set_option maxRecDepth 100000
set_option maxHeartbeats 4000000
namespace K14
open PySem PySem.Spec PyProof.Rows L2 OG
open C8 (pss_cut pe_gc)
open OGX

section
variable {P : Program} {w : World} {K : PySem.W.Frag} {mg : Str → Option Value} {base : Heap}
theorem ok_l_drawn_sums (T : Tops K mg) : FnOk P w K mg base CX0 4 T.fl_drawn_sums T.dl_drawn_sums ["_law_draw", "_law_top", "_law_deep", "_law_wide"] spSums := by
  have Gl_take : FnOk P w K mg base CX0 1 T.fl_take T.dl_take ["_law_draw", "_law_sides"] spTakeW := ok_takeW T
  have Gl_terms : FnOk P w K mg base CX0 3 T.fl_terms T.dl_terms ["_law_draw", "_law_top", "_law_deep", "_law_wide"] spTerms := ok_l_terms T
  refine T.Fl_drawn_sums.ok (k := 3) scl_drawn_sums (fun vs H Q E h => ?_) (fun cdv A outer s H vs Q E hr h => ?_)
  · obtain ⟨d, L, top, deep, wide, rfl, _⟩ := h
    rfl
  obtain ⟨d, L, top, deep, wide, rfl, hD, t0, t9, d0, d9, w1, w2, q⟩ := h
  refine ⟨_, (pss_cons (ps_set (i := 4) scl_drawn_sums.nd rfl (Or.inl rfl) (pe_lst (pa_cons (pe_tup (pa_cons pe_int (pa_cons (pe_call Gl_terms (hr.mono (by omega)) (by rfl) T.gl_terms T.Fl_terms.kp T.bl_terms .nil pass0 (pa_cons (pv 0) (pa_cons (pv 1) (pa_cons (pv 2) (pa_cons (pv 3) pa_nil))))) pa_nil))) pa_nil)))
 (pss_cons (ps_for PassesOwn.never rfl (pi_range1 (by rfl) T.mrange (pa_cons (pe_call Gl_take (hr.mono (by omega)) (by rfl) T.gl_take T.Fl_take.kp T.bl_take .nil pass0 (pa_cons (pv 0) (pa_cons pe_int pa_nil))) pa_nil)) (pg_name (i := 5) scl_drawn_sums.nd rfl (Or.inl rfl))
  (pss_one (ps_expr (pe_bm PySem.F.plainAttrs_list PySem.F.slot_list_append PySem.F.type_list_append mt_append (pv 4) (pa_cons (pe_tup (pa_cons (pe_op op_add (pe_op op_add (pe_ix ix_tup (pe_ix ix_list (pv 4) (pe_un un_neg pe_int) (fun _ _ => rfl)) pe_int (fun _ _ => rfl)) pe_int) (pe_call Gl_take (hr.mono (by omega)) (by rfl) T.gl_take T.Fl_take.kp T.bl_take .nil pass0 (pa_cons (pv 0) (pa_cons pe_int pa_nil)))) (pa_cons (pe_call Gl_terms (hr.mono (by omega)) (by rfl) T.gl_terms T.Fl_terms.kp T.bl_terms .nil pass0 (pa_cons (pv 0) (pa_cons (pv 1) (pa_cons (pv 2) (pa_cons (pv 3) pa_nil))))) pa_nil))) pa_nil)))))
 (pss_one (ps_ret (pv 4))))), ?_⟩
  refine ⟨_, rfl, _, rfl, _, rfl, _, rfl, d, L, top, deep, wide, rfl, hD, t0, t9, d0, d9, w1, w2, fun l0 ts0 H1 nl0 nl0d hT0 hok0 hlen0 hfall0 hD1 G1 => ?_⟩
  refine ⟨(by show 2 ≤ sizeLine; decide), fun a0 na0 => ?_⟩
  refine ⟨(by show 1 ≤ sizeLine; decide), fun F nF => ?_⟩
  have s2 : Same H1 (upd (upd H1 a0 (.tup [.int 0, .ref l0])) F (.lst [.ref a0])) := (same_new na0).trans (same_new nF)
  have hD2 := hD1.same s2
  have nFd := (hD1.new (o := .tup [.int 0, .ref l0]) na0).neNew nF
  have nFl0 : l0 ≠ F := by
    obtain ⟨us, hl, _⟩ := hT0
    exact ne_of_none (same_new na0 _ _ hl) nF
  have hr0 : RowAt (upd (upd H1 a0 (.tup [.int 0, .ref l0])) F (.lst [.ref a0])) (.ref a0) (0, ts0) l0 := ⟨a0, rfl, same_new nF _ _ upd_same, hT0.same s2⟩
  have G2 : Go (· = d) H (upd (upd H1 a0 (.tup [.int 0, .ref l0])) F (.lst [.ref a0])) := G1.trans (Go.same s2)
  have nFH : H F = none := by
    cases hz : H F with
    | none => rfl
    | some u =>
      have := G1.at hz nFd.1
      rw [same_new na0 _ _ this] at nF
      cases nF
  refine ⟨_, rfl, d, L, 4, rfl, hD2, by decide, by decide, fun g H3 g0 g1 hD3 hB3 => ?_⟩
  have G23 : Go (· = d) (upd (upd H1 a0 (.tup [.int 0, .ref l0])) F (.lst [.ref a0])) H3 := Go.but hD2 hB3 rfl
  refine ⟨g, rfl, by omega, by omega, ?_⟩
  refine for_range (lo := 0) (n := g.toNat) (fun i σ H' => (∃ x5, σ = [some (.ref d), some (.int top), some (.int deep), some (.int wide), some (.ref F), x5]) ∧ Dr H' d L ∧ Go (· = d) H H' ∧
      ∃ (us : List V) (u : V) (rs : List OG.Row) (r : OG.Row) (ls : List Addr) (l : Addr), H' F = some (.lst (us ++ [u])) ∧ RowsAt H' us rs ls ∧ RowAt H' u r l ∧ rs.length = i ∧ (∀ x ∈ ls ++ [l], H x = none ∧ x ≠ d ∧ x ≠ F) ∧
        (∀ x ∈ rs ++ [r], (∀ t ∈ x.2, TermOk top deep wide t) ∧ x.2.length ≤ 3 ∧ Falls x.2) ∧ ((rs ++ [r]).head?.map (·.1)) = some 0 ∧ ((rs ++ [r]).map (·.1)).Pairwise (· < ·) ∧ (∀ x ∈ rs ++ [r], 0 ≤ x.1 ∧ x.1 ≤ r.1) ∧ r.1 ≤ 12 * i)
    ⟨⟨_, rfl⟩, hD3, G2.trans G23, [], .ref a0, [], (0, ts0), [], l0, G23.at upd_same nFd.1, .nil, hr0.go G23 nl0d, rfl, fun x hx => ?_, fun x hx => ?_, rfl, by simp, fun x hx => ?_, by simp⟩ (fun i σ H4 hi hP => ?_) (fun σ H4 hP => ?_)
  · rw [List.mem_singleton.mp hx]
    exact ⟨nl0, nl0d, nFl0⟩
  · rw [List.mem_singleton.mp hx]
    exact ⟨hok0, hlen0, hfall0⟩
  · rw [List.mem_singleton.mp hx]
    exact ⟨Int.le_refl 0, Int.le_refl 0⟩
  · obtain ⟨⟨x5, rfl⟩, hD4, G4, us, u, rs, r, ls, l, hF4, hRs, hRl, hlen, hls, hoks, hhd, hpw, hsn, hr12⟩ := hP
    obtain ⟨a, rfl, ha, hta⟩ := id hRl
    refine ⟨_, rfl, .inl ⟨rfl, _, SqL.of hF4⟩, _, rfl, 1, rfl, F, _, -1, _, rfl, rfl, SqL.of hF4, atI_last us (.ref a), a, _, 0, _, rfl, rfl, SqT.of ha, rfl, _, _, rfl, rfl, ?_⟩
    refine ⟨_, rfl, d, L, 12, rfl, hD4, by decide, by decide, fun e H5 a5 b5 hD5 hB5 => ?_⟩
    have G45 : Go (· = d) H4 H5 := Go.but hD4 hB5 rfl
    refine ⟨_, _, rfl, rfl, ?_⟩
    refine ⟨_, rfl, _, rfl, _, rfl, _, rfl, d, L, top, deep, wide, rfl, hD5, t0, t9, d0, d9, w1, w2, fun l6 ts6 H6 nl6 nl6d hT6 hok6 hlen6 hfall6 hD6 G6 => ?_⟩
    have G46 := G45.trans G6
    refine ⟨(by show 2 ≤ sizeLine; decide), fun a6 na6 => ?_⟩
    have s7 : Same H6 (upd H6 a6 (.tup [.int (r.1 + 1 + e), .ref l6])) := same_new na6
    have hF6 := s7 _ _ (G46.at hF4 nFd.1)
    have nl6F : l6 ≠ F := by
      have hF5 := G45.at hF4 nFd.1
      exact (ne_of_none hF5 nl6).symm
    have nl6H : H l6 = none := by
      cases hz : H l6 with
      | none => rfl
      | some u =>
        have := (G4.trans G45).at hz nl6d
        rw [nl6] at this
        cases this
    have lrs := hRs.len
    refine ⟨F, _, _, rfl, rfl, hF6, szl (by rw [List.length_append, lrs.1, hlen]; show i + 1 < 100000; omega), ?_⟩
    have nM : ∀ x ∈ ls, ¬ x = d := fun x hx => (hls x (List.mem_append_left _ hx)).2.1
    have nMF : ∀ x ∈ ls, x ≠ F := fun x hx => (hls x (List.mem_append_left _ hx)).2.2
    have hl := hls l (List.mem_append_right _ (List.mem_singleton.mpr rfl))
    have hrow6 : RowAt (upd H6 a6 (.tup [.int (r.1 + 1 + e), .ref l6])) (.ref a6) (r.1 + 1 + e, ts6) l6 := ⟨a6, rfl, upd_same, hT6.same s7⟩
    refine ⟨⟨_, rfl⟩, ((hD6.same s7).upd nFd.1 nFd.2), ((G4.trans G46).trans (Go.same s7)).own nFH, us ++ [.ref a], .ref a6, rs ++ [r], (r.1 + 1 + e, ts6), ls ++ [l], l6, upd_same, ?_, hrow6.upd nl6F hF6, by rw [List.length_append, hlen]; rfl, fun x hx => ?_, fun x hx => ?_, ?_, ?_, fun x hx => ?_, ?_⟩
    · exact ((((hRs.go G46 nM).same s7).upd hF6 nMF).append (.cons (((hRl.go G46 hl.2.1).same s7).upd hl.2.2 hF6) .nil))
    · rcases List.mem_append.mp hx with h1 | h1
      · exact hls x h1
      · rw [List.mem_singleton.mp h1]
        exact ⟨nl6H, nl6d, nl6F⟩
    · rcases List.mem_append.mp hx with h1 | h1
      · exact hoks x h1
      · rw [List.mem_singleton.mp h1]
        exact ⟨hok6, hlen6, hfall6⟩
    · rw [List.head?_append, Option.map_or]
      rw [hhd]
      rfl
    · rw [List.map_append, List.pairwise_append]
      refine ⟨hpw, by simp, fun x hx y hy => ?_⟩
      obtain ⟨z, hz, rfl⟩ := List.mem_map.mp hx
      have ey : y = r.1 + 1 + e := List.mem_singleton.mp hy
      have := (hsn z hz).2
      omega
    · rcases List.mem_append.mp hx with h1 | h1
      · have := hsn x h1
        exact ⟨this.1, by show x.1 ≤ r.1 + 1 + e; omega⟩
      · rw [List.mem_singleton.mp h1]
        have := (hsn r (List.mem_append_right _ (List.mem_singleton.mpr rfl))).1
        exact ⟨by show 0 ≤ r.1 + 1 + e; omega, Int.le_refl _⟩
    · show r.1 + 1 + e ≤ 12 * ((i + 1 : Nat) : Int)
      omega
  · obtain ⟨⟨x5, rfl⟩, hD4, G4, us, u, rs, r, ls, l, hF4, hRs, hRl, hlen, hls, hoks, hhd, hpw, hsn, hr12⟩ := hP
    refine ⟨_, rfl, q F (rs ++ [r]) (ls ++ [l]) H4 nFH nFd.1 hls ⟨_, hF4, hRs.append (.cons hRl .nil)⟩ ⟨by simp, by rw [List.length_append, hlen]; show _ + 1 ≤ 4; omega, hoks, hhd, hpw, fun x hx => ?_⟩ hD4 G4⟩
    have := hsn x hx
    exact ⟨this.1, by omega⟩
end
end K14

set_option Elab.async false
set_option linter.all false
set_option maxRecDepth 100000
set_option maxHeartbeats 4000000
namespace K14
open PySem PySem.Spec PyProof.Rows L2 OG
open C8 (pss_cut pe_gc)
open OGX

section
variable {P : Program} {w : World} {K : PySem.W.Frag} {mg : Str → Option Value} {base : Heap}
theorem ok_powerW (T : Tops K mg) : FnOk P w K mg base CX0 1 T.fpower T.dpower ["base", "exponent"] spPowW := by
  refine T.Fpower.ok (k := 0) scpower (fun vs H Q E h => ?_) (fun cdv A outer s H vs Q E hr h => ?_)
  · obtain ⟨b, e, rfl, _⟩ := h
    rfl
  obtain ⟨b, e, rfl, hb, he, q⟩ := h
  refine ⟨_, (pss_cons (ps_set (i := 2) scpower.nd rfl (Or.inl rfl) pe_int)
 (pss_cons (ps_for PassesOwn.never rfl (pi_range1 (by rfl) T.mrange (pa_cons (pv 1) pa_nil)) (pg_name (i := 3) scpower.nd rfl (Or.inl rfl))
  (pss_one (ps_aug (i := 2) scpower.nd rfl (Or.inl rfl) (pv 0) ip_mulW)))
 (pss_one (ps_ret (pv 2))))), ?_⟩
  refine ⟨_, rfl, e, rfl, by omega, by omega, ?_⟩
  refine for_range (n := ((e : Nat) : Int).toNat) (fun i σ H' => H' = H ∧ ∃ x3, σ = [some (.int b), some (.int e), some (.int (b ^ i)), x3]) ⟨rfl, none, by rw [Int.pow_zero]; rfl⟩ (fun i σ H2 hi hP => ?_) (fun σ H2 hP => ?_)
  · obtain ⟨rfl, x3, rfl⟩ := hP
    refine ⟨_, rfl, _, rfl, _, _, rfl, rfl, wide_mul (pow_abs b i hb) hb (by omega) (by decide) (by omega), rfl, some (.int (0 + (i : Int))), ?_⟩
    rw [Int.pow_succ]
    rfl
  · obtain ⟨rfl, x3, rfl⟩ := hP
    exact ⟨_, rfl, q⟩
theorem ok_l_raisedW (T : Tops K mg) : FnOk P w K mg base CX0 1 T.fl_raised T.dl_raised ["_law_part", "_law_upto"] spPowW := by
  refine T.Fl_raised.ok (k := 0) scl_raised (fun vs H Q E h => ?_) (fun cdv A outer s H vs Q E hr h => ?_)
  · obtain ⟨b, e, rfl, _⟩ := h
    rfl
  obtain ⟨b, e, rfl, hb, he, q⟩ := h
  refine ⟨_, (pss_cons (ps_set (i := 2) scl_raised.nd rfl (Or.inl rfl) pe_int)
 (pss_cons (ps_for PassesOwn.never rfl (pi_range1 (by rfl) T.mrange (pa_cons (pv 1) pa_nil)) (pg_name (i := 3) scl_raised.nd rfl (Or.inl rfl))
  (pss_one (ps_set (i := 2) scl_raised.nd rfl (Or.inl rfl) (pe_op op_mulW (pv 2) (pv 0)))))
 (pss_one (ps_ret (pv 2))))), ?_⟩
  refine ⟨_, rfl, e, rfl, by omega, by omega, ?_⟩
  refine for_range (n := ((e : Nat) : Int).toNat) (fun i σ H' => H' = H ∧ ∃ x3, σ = [some (.int b), some (.int e), some (.int (b ^ i)), x3]) ⟨rfl, none, by rw [Int.pow_zero]; rfl⟩ (fun i σ H2 hi hP => ?_) (fun σ H2 hP => ?_)
  · obtain ⟨rfl, x3, rfl⟩ := hP
    refine ⟨_, rfl, _, rfl, _, _, rfl, rfl, wide_mul (pow_abs b i hb) hb (by omega) (by decide) (by omega), rfl, some (.int (0 + (i : Int))), ?_⟩
    rw [Int.pow_succ]
    rfl
  · obtain ⟨rfl, x3, rfl⟩ := hP
    exact ⟨_, rfl, q⟩
theorem ok_greatest_divisor (T : Tops K mg) : FnOk P w K mg base CX0 1 T.fgreatest_divisor T.dgreatest_divisor ["one", "other"] spGreatest := by
  refine T.Fgreatest_divisor.ok (k := 0) scgreatest_divisor (fun vs H Q E h => ?_) (fun cdv A outer s H vs Q E hr h => ?_)
  · obtain ⟨a, b, rfl, _⟩ := h
    rfl
  obtain ⟨a, b, rfl, hb, q⟩ := h
  refine ⟨_, (pss_cons (ps_while PassesOwn.never (pt_cmpR op_ne (pv 1) pe_int (nomark _))
  (pss_one (ps_par (i := 0) (j := 1) (by rfl) scgreatest_divisor.nd rfl rfl (by decide) rfl rfl (pa_cons (pv 1) (pa_cons (pe_op op_mod (pv 0) (pv 1)) pa_nil)) (by rfl))))
 (pss_one (ps_ret (pe_callB call_abs (by rfl) T.mabs (by decide +kernel) (pa_cons (pv 0) pa_nil))))), ?_⟩
  refine ⟨fun m σ H' => H' = H ∧ ∃ x y : Int, σ = [some (.int x), some (.int y)] ∧ 0 ≤ y ∧ Int.gcd x y = Int.gcd a b ∧ y.toNat = m, ⟨_, rfl, a, b, rfl, hb, rfl, rfl⟩, ?_⟩
  rintro m σ H' ⟨rfl, x, y, rfl, hy, hg, rfl⟩
  refine ⟨_, rfl, rfl, _, rfl, ite2 (fun c => ?_) (fun c => ?_)⟩
  · have hy0 : y ≠ 0 := fun z => by
      rw [z] at c
      exact absurd c (by decide)
    have hpos : 0 < y := by omega
    refine ⟨fun σ' H2 => H2 = H' ∧ σ' = [some (.int y), some (.int (x % y))], ?_, ?_⟩
    · rintro σ2 H2 ⟨rfl, rfl⟩
      have h1 := Int.emod_nonneg x hy0
      have h2 := Int.emod_lt_of_pos x hpos
      exact ⟨(x % y).toNat, by omega, rfl, y, x % y, rfl, h1, by rw [gcd_mod]; exact hg, rfl⟩
    · exact ⟨_, rfl, _, rfl, _, rfl, _, _, rfl, rfl, hpos, _, _, rfl, rfl, rfl⟩
  · have hy0 : y = 0 := by
      by_cases z : y = 0
      · exact z
      · refine absurd ?_ c
        show (!decide (V.int y = V.int 0)) = true
        rw [decide_eq_false fun e => z (V.int.inj e)]
        rfl
    subst hy0
    rw [Int.gcd_zero_right] at hg
    refine ⟨_, rfl, x, rfl, ?_⟩
    have ab : (if x < 0 then -x else x) = ((x.natAbs : Nat) : Int) := by split <;> omega
    rw [ab, hg]
    exact q
theorem ok_part_of (T : Tops K mg) : FnOk P w K mg base CX0 2 T.fpart_of T.dpart_of ["over", "under"] spPartOf := by
  have Ggreatest_divisor : FnOk P w K mg base CX0 1 T.fgreatest_divisor T.dgreatest_divisor ["one", "other"] spGreatest := ok_greatest_divisor T
  refine T.Fpart_of.ok (k := 1) scpart_of (fun vs H Q E h => ?_) (fun cdv A outer s H vs Q E hr h => ?_)
  · obtain ⟨o, u, rfl, _⟩ := h
    rfl
  obtain ⟨o, u, rfl, h1, h2, q⟩ := h
  refine ⟨_, (pss_cons (ps_set (i := 2) scpart_of.nd rfl (Or.inl rfl) (pe_call Ggreatest_divisor (hr.mono (by omega)) (by rfl) T.ggreatest_divisor T.Fgreatest_divisor.kp T.bgreatest_divisor .nil pass0 (pa_cons (pv 0) (pa_cons (pv 1) pa_nil))))
 (pss_one (ps_ret (pe_tup (pa_cons (pe_op op_fdivW (pv 0) (pv 2)) (pa_cons (pe_op op_fdivW (pv 1) (pv 2)) pa_nil)))))), ?_⟩
  refine ⟨_, rfl, _, rfl, o, u, rfl, by omega, ?_⟩
  refine ⟨_, rfl, _, rfl, _, _, rfl, rfl, gcd_big h1 h2, _, rfl, _, rfl, _, _, rfl, rfl, gcd_big h1 h2, (by show 2 ≤ sizeLine; decide), fun t nt => ?_⟩
  exact q _ _ (same_new nt) (rp_tup upd_same (rpl_cons rfl (rpl_cons rfl rpl_nil)))
theorem ok_part_sum (T : Tops K mg) : FnOk P w K mg base CX0 3 T.fpart_sum T.dpart_sum ["one", "other"] (spPartSum K) := by
  have Gpart_of : FnOk P w K mg base CX0 2 T.fpart_of T.dpart_of ["over", "under"] spPartOf := ok_part_of T
  refine T.Fpart_sum.ok (k := 2) scpart_sum (fun vs H Q E h => ?_) (fun cdv A outer s H vs Q E hr h => ?_)
  · obtain ⟨u, v, o, p, rfl, _⟩ := h
    rfl
  obtain ⟨u, v, o, p, rfl, ⟨a, rfl, ha⟩, ⟨b, rfl, hb⟩, o1, o2, p1, p2, q⟩ := h
  refine ⟨_, (pss_one (ps_ret (pe_call Gpart_of (hr.mono (by omega)) (by rfl) T.gpart_of T.Fpart_of.kp T.bpart_of .nil pass0 (pa_cons (pe_op op_add (pe_op op_mul (pe_ix ix_tup (pv 0) pe_int (fun _ _ => rfl)) (pe_ix ix_tup (pv 1) pe_int (fun _ _ => rfl))) (pe_op op_mul (pe_ix ix_tup (pv 1) pe_int (fun _ _ => rfl)) (pe_ix ix_tup (pv 0) pe_int (fun _ _ => rfl)))) (pa_cons (pe_op op_mul (pe_ix ix_tup (pv 0) pe_int (fun _ _ => rfl)) (pe_ix ix_tup (pv 1) pe_int (fun _ _ => rfl))) pa_nil))))), ?_⟩
  refine ⟨_, rfl, a, _, 0, _, rfl, rfl, ha, rfl, _, rfl, b, _, 1, _, rfl, rfl, hb, rfl, _, _, rfl, rfl, .inr ⟨by omega, by omega⟩, ?_⟩
  refine ⟨_, rfl, b, _, 0, _, rfl, rfl, hb, rfl, _, rfl, a, _, 1, _, rfl, rfl, ha, rfl, _, _, rfl, rfl, .inr ⟨by omega, by omega⟩, ?_⟩
  refine ⟨_, _, rfl, rfl, ?_⟩
  refine ⟨_, rfl, a, _, 1, _, rfl, rfl, ha, rfl, _, rfl, b, _, 1, _, rfl, rfl, hb, rfl, _, _, rfl, rfl, .inr ⟨by omega, by omega⟩, ?_⟩
  have hp : 0 < o.2 * p.2 := Int.mul_pos (by omega) (by omega)
  refine ⟨_, _, rfl, by omega, ?_, fun w' H' s' hR => q w' H' s' hR⟩
  have h1 : (o.2 * p.2).natAbs < 2 ^ (20 + 20) := wide_lt (by omega) (by omega)
  exact Nat.lt_of_lt_of_le h1 (Nat.pow_le_pow_right (by decide) (by decide))
theorem ok_row_at (T : Tops K mg) : FnOk P w K mg base CX0 1 T.frow_at T.drow_at ["rows", "size"] spRowAt := by
  refine T.Frow_at.ok (k := 0) scrow_at (fun vs H Q E h => ?_) (fun cdv A outer s H vs Q E hr h => ?_)
  · obtain ⟨S, rs, ls, n, rfl, _⟩ := h
    rfl
  obtain ⟨S, rs, ls, n, rfl, ⟨us, hS, hR⟩, hok, hn, q⟩ := h
  refine ⟨_, (pss_cons (ps_set (i := 2) scrow_at.nd rfl (Or.inl rfl) pe_int)
 (pss_cons (ps_set (i := 3) scrow_at.nd rfl (Or.inl rfl) (pe_callB call_len_seq (by rfl) T.mlen PySem.boot_len (pa_cons (pv 0) pa_nil)))
 (pss_cons (ps_while PassesOwn.never (pt_cmpR op_gt (pe_op op_sub (pv 3) (pv 2)) pe_int (nomark _))
  (pss_cons (ps_set (i := 4) scrow_at.nd rfl (Or.inl rfl) (pe_op op_fdiv (pe_op op_add (pv 2) (pv 3)) pe_int))
 (pss_one (ps_if (pt_cmpR op_le (pe_ix ix_tup (pe_ix ix_list (pv 0) (pv 4) (fun _ _ => rfl)) pe_int (fun _ _ => rfl)) (pv 1) (nomark _))
  (pss_one (ps_set (i := 2) scrow_at.nd rfl (Or.inl rfl) (pv 4)))
  (pss_one (ps_set (i := 3) scrow_at.nd rfl (Or.inl rfl) (pv 4)))))))
 (pss_one (ps_ret (pv 2)))))), ?_⟩
  have lu := hR.len.1
  have l8 := hok.short
  have pos := hok.pos hn
  have le := rowIx_le rs n
  refine ⟨_, rfl, S, us, rfl, .inl (SqL.of hS), ?_⟩
  refine ⟨fun m σ H' => H' = H ∧ ∃ (lo hi : Nat) (x4 : Option V), σ = [some (.ref S), some (.int n), some (.int lo), some (.int hi), x4] ∧ lo < rowIx rs n ∧ rowIx rs n ≤ hi ∧ hi ≤ rs.length ∧ hi - lo = m, ⟨_, rfl, 0, us.length, none, rfl, pos, by omega, by omega, rfl⟩, ?_⟩
  rintro m σ H' ⟨rfl, lo, hi, x4, rfl, h1, h2, h3, rfl⟩
  refine ⟨_, rfl, _, rfl, _, _, rfl, rfl, _, 1, rfl, rfl, _, rfl, ite2 (fun c => ?_) (fun c => ?_)⟩
  · have c1 : (1 : Int) < (hi : Int) - (lo : Int) := of_decide_eq_true c
    refine ⟨fun σ' H2 => H2 = H' ∧ ∃ (lo2 hi2 : Nat) (x4 : Option V), σ' = [some (.ref S), some (.int n), some (.int lo2), some (.int hi2), x4] ∧ lo2 < rowIx rs n ∧ rowIx rs n ≤ hi2 ∧ hi2 ≤ rs.length ∧ hi2 - lo2 < hi - lo, ?_, ?_⟩
    · rintro σ2 H2 ⟨rfl, lo2, hi2, y4, rfl, a1, a2, a3, a4⟩
      exact ⟨_, a4, rfl, lo2, hi2, y4, rfl, a1, a2, a3, rfl⟩
    · refine ⟨_, rfl, _, rfl, _, _, rfl, rfl, _, 2, rfl, rfl, ⟨by decide, by decide⟩, ?_⟩
      have em : ((lo : Int) + (hi : Int)) / 2 = (((lo + hi) / 2 : Nat) : Int) := by omega
      have hmid : (lo + hi) / 2 < us.length := by omega
      have hu : us[(lo + hi) / 2]? = some us[(lo + hi) / 2] := List.getElem?_eq_getElem hmid
      obtain ⟨r, l, hr1, _, hRr⟩ := hR.get hu
      obtain ⟨b, eb, hb, _⟩ := hRr
      have hix : atI us (((lo : Int) + (hi : Int)) / 2) = some (.ref b) := by rw [em, OG.atI_get hu, eb]
      refine ⟨_, rfl, _, rfl, S, us, _, _, rfl, rfl, SqL.of hS, hix, b, _, 0, _, rfl, rfl, SqT.of hb, rfl, _, rfl, _, _, rfl, rfl, _, rfl, ite2 (fun c2 => ?_) (fun c2 => ?_)⟩
      · have c3 : r.1 ≤ n := of_decide_eq_true c2
        have := (rowIx_iff hok.rises hr1).mp c3
        refine ⟨_, rfl, rfl, (lo + hi) / 2, hi, some (.int (((lo : Int) + (hi : Int)) / 2)), ?_, this, h2, h3, by omega⟩
        show [some (V.ref S), some (V.int n), some (V.int (((lo : Int) + (hi : Int)) / 2)), some (V.int hi), some (V.int (((lo : Int) + (hi : Int)) / 2))] = _
        rw [em]
      · have c3 : ¬ r.1 ≤ n := fun z => c2 (decide_eq_true z)
        have : ¬ (lo + hi) / 2 < rowIx rs n := fun z => c3 ((rowIx_iff hok.rises hr1).mpr z)
        refine ⟨_, rfl, rfl, lo, (lo + hi) / 2, some (.int (((lo : Int) + (hi : Int)) / 2)), ?_, h1, by omega, by omega, by omega⟩
        show [some (V.ref S), some (V.int n), some (V.int lo), some (V.int (((lo : Int) + (hi : Int)) / 2)), some (V.int (((lo : Int) + (hi : Int)) / 2))] = _
        rw [em]
  · have c1 : ¬ (1 : Int) < (hi : Int) - (lo : Int) := fun z => c (decide_eq_true z)
    have e : lo = rowIx rs n - 1 := by omega
    rw [← e] at q
    exact ⟨_, rfl, q⟩
theorem ok_worth (T : Tops K mg) : FnOk P w K mg base CX0 4 T.fworth T.dworth ["sums", "size"] (spWorth K) := by
  have Grow_at : FnOk P w K mg base CX0 1 T.frow_at T.drow_at ["rows", "size"] spRowAt := ok_row_at T
  have Gpower : FnOk P w K mg base CX0 1 T.fpower T.dpower ["base", "exponent"] spPowW := ok_powerW T
  have Gpart_of : FnOk P w K mg base CX0 2 T.fpart_of T.dpart_of ["over", "under"] spPartOf := ok_part_of T
  have Gpart_sum : FnOk P w K mg base CX0 3 T.fpart_sum T.dpart_sum ["one", "other"] (spPartSum K) := ok_part_sum T
  refine T.Fworth.ok (k := 3) scworth (fun vs H Q E h => ?_) (fun cdv A outer s H vs Q E hr h => ?_)
  · obtain ⟨S, rs, ls, n, rfl, _⟩ := h
    rfl
  obtain ⟨S, rs, ls, n, rfl, hSm, hok, hn, hn2, q⟩ := h
  refine ⟨_, (pss_cons (ps_set (i := 2) scworth.nd rfl (Or.inl rfl) (pe_gc (by rfl) T.cNOUGHT))
 (pss_cons (ps_for PassesOwn.never rfl (pi_list (pe_ix ix_tup (pe_ix ix_list (pv 0) (pe_call Grow_at (hr.mono (by omega)) (by rfl) T.grow_at T.Frow_at.kp T.brow_at .nil pass0 (pa_cons (pv 0) (pa_cons (pv 1) pa_nil))) (fun _ _ => rfl)) pe_int (fun _ _ => rfl))) (pg_tup rfl (pgs_cons (pg_tup rfl (pgs_cons (pg_name (i := 4) scworth.nd rfl (Or.inl rfl)) (pgs_cons (pg_name (i := 5) scworth.nd rfl (Or.inl rfl)) pgs_nil))) (pgs_cons (pg_tup rfl (pgs_cons (pg_name (i := 6) scworth.nd rfl (Or.inl rfl)) (pgs_cons (pg_name (i := 7) scworth.nd rfl (Or.inl rfl)) pgs_nil))) pgs_nil)))
  (pss_cons (ps_set (i := 3) scworth.nd rfl (Or.inl rfl) (pe_op op_mul (pe_call Gpower (hr.mono (by omega)) (by rfl) T.gpower T.Fpower.kp T.bpower .nil pass0 (pa_cons (pv 1) (pa_cons (pv 4) pa_nil))) (pe_call Gpower (hr.mono (by omega)) (by rfl) T.gpower T.Fpower.kp T.bpower .nil pass0 (pa_cons (pe_bits (pv 1)) (pa_cons (pv 5) pa_nil)))))
 (pss_one (ps_set (i := 2) scworth.nd rfl (Or.inl rfl) (pe_call Gpart_sum (hr.mono (by omega)) (by rfl) T.gpart_sum T.Fpart_sum.kp T.bpart_sum .nil pass0 (pa_cons (pv 2) (pa_cons (pe_call Gpart_of (hr.mono (by omega)) (by rfl) T.gpart_of T.Fpart_of.kp T.bpart_of .nil pass0 (pa_cons (pe_op op_mulW (pv 6) (pv 3)) (pa_cons (pv 7) pa_nil))) pa_nil)))))))
 (pss_one (ps_ret (pv 2))))), ?_⟩
  obtain ⟨us, hS, hR⟩ := id hSm
  have lu := hR.len.1
  have pos := hok.pos hn
  have le := rowIx_le rs n
  refine ⟨_, rfl, _, rfl, _, rfl, S, rs, ls, n, rfl, hSm, hok, hn, ?_⟩
  have hu : us[rowIx rs n - 1]? = some (us[rowIx rs n - 1]'(by omega)) := List.getElem?_eq_getElem (by omega)
  obtain ⟨r, l, hr1, _, hRr⟩ := hR.get hu
  obtain ⟨b, eb, hb, ws, hl, hW⟩ := hRr
  have hix : atI us ((rowIx rs n - 1 : Nat) : Int) = some (.ref b) := by rw [OG.atI_get hu, eb]
  refine ⟨S, us, _, _, rfl, rfl, SqL.of hS, hix, b, _, 1, _, rfl, rfl, SqT.of hb, rfl, l, rfl, ⟨_, SqL.of hl⟩, ?_⟩
  have ets := rowTs_of hr1
  obtain ⟨hr8, hts⟩ := hok.terms r (List.mem_of_getElem? hr1)
  have lw := hW.length
  rw [List.length_map] at lw
  have hun : ∀ t ∈ r.2, 1 ≤ t.2.2 ∧ t.2.2 ≤ 2 := fun t ht => ⟨(hts t ht).2.2.2.2.2.1, (hts t ht).2.2.2.2.2.2⟩
  have hf := figs_le hn2
  refine for_list (xs := ws) (fun i σ H' => Same H H' ∧ ∃ v x3 x4 x5 x6 x7, σ = [some (.ref S), some (.int n), some v, x3, x4, x5, x6, x7] ∧ PartAt K H' v (lowOf (sumUp n (r.2.take i)).1 (sumUp n (r.2.take i)).2))
    ⟨Same.refl H, _, _, _, _, _, _, rfl, ⟨_, rfl, by show SqT K H _ [.int (lowOf 0 1).1, .int (lowOf 0 1).2]; rw [low_01]; exact T.tNOUGHT H⟩⟩ (fun i σ H' _ hP => SqL.of (hP.1 _ _ hl)) (fun i x σ H2 hx hP => ?_) (fun σ H2 hP => ?_)
  · obtain ⟨s2, v, x3, x4, x5, x6, x7, rfl, hv⟩ := hP
    obtain ⟨t, htt, hRt⟩ := rpl_terms (hW.to (Imm.same s2)) hx
    obtain ⟨c, v1, v2, rfl, hc, h1, h2⟩ := rp_t2 hRt
    obtain ⟨e, w1, w2, rfl, he, rfl, rfl⟩ := rp_t2 h1
    obtain ⟨f, w3, w4, rfl, hf2, rfl, rfl⟩ := rp_t2 h2
    obtain ⟨t1, t2, t3, t4, t5, t6, t7⟩ := hts t (List.mem_of_getElem? htt)
    refine ⟨c, _, rfl, SqT.of hc, rfl, _, _, rfl, e, _, rfl, SqT.of he, rfl, _, _, rfl, _, _, rfl, rfl, _, _, rfl, f, _, rfl, SqT.of hf2, rfl, _, _, rfl, _, _, rfl, rfl, rfl, ?_⟩
    have ep : t.1.1 = ((t.1.1.toNat : Nat) : Int) := by omega
    have ef : t.1.2 = ((t.1.2.toNat : Nat) : Int) := by omega
    have bn : n.natAbs < 2 ^ 101 := Nat.lt_of_lt_of_le hn2 (Nat.pow_le_pow_right (by decide) (by decide))
    have bf : ((figs n : Nat) : Int).natAbs < 2 ^ 7 := by omega
    have bpf := pow_abs ((figs n : Nat) : Int) t.1.2.toNat bf
    have bpf2 : (((figs n : Nat) : Int) ^ t.1.2.toNat).natAbs < 2 ^ 64 := Nat.lt_of_lt_of_le bpf (Nat.pow_le_pow_right (by decide) (by omega))
    have bpn := pow_abs n t.1.1.toNat bn
    refine ⟨_, rfl, _, rfl, n, t.1.1.toNat, by rw [← ep]; rfl, bn, by omega, ?_⟩
    refine ⟨_, rfl, n, rfl, _, rfl, ((figs n : Nat) : Int), t.1.2.toNat, by rw [← ef]; rfl, Nat.lt_of_lt_of_le bf (Nat.pow_le_pow_right (by decide) (by decide)), by omega, ?_⟩
    refine ⟨_, _, rfl, rfl, .inr ⟨by omega, by omega⟩, ?_⟩
    have bt : (n ^ t.1.1.toNat * ((figs n : Nat) : Int) ^ t.1.2.toNat).natAbs < 2 ^ (101 * t.1.1.toNat + 1 + 64) := wide_lt bpn bpf2
    refine ⟨_, rfl, _, rfl, _, rfl, _, _, rfl, rfl, wide_mul t5 bt (by decide) (by omega) (by omega), ?_⟩
    have em : t.2.1 * (n ^ t.1.1.toNat * ((figs n : Nat) : Int) ^ t.1.2.toNat) = moreOf n t := by
      unfold moreOf
      rw [Int.mul_assoc]
    refine ⟨_, rfl, moreOf n t, t.2.2, by rw [← em]; rfl, t6, ?_, fun v' H3 s3 hR3 => ?_⟩
    · have : t.2.2.natAbs < 2 ^ 2 := by omega
      exact Nat.lt_of_lt_of_le this (Nat.pow_le_pow_right (by decide) (by decide))
    have su : 1 ≤ (sumUp n (r.2.take i)).2 ∧ (sumUp n (r.2.take i)).2 ≤ (0, (1 : Int)).2 * 2 ^ (r.2.take i).length := sum_under n (r.2.take i) (0, 1) (fun t ht => hun t (List.mem_of_mem_take ht)) (by decide)
    have hl1 := low_facts (o := (sumUp n (r.2.take i)).1) su.1
    have hl2 := low_facts (o := moreOf n t) t6
    have ll1 := (low_le (o := (sumUp n (r.2.take i)).1) su.1).1
    have ll2 := (low_le (o := moreOf n t) t6).1
    have lt8 : (2 : Int) ^ (r.2.take i).length ≤ 256 := by
      have h8 : (r.2.take i).length ≤ 8 := by rw [List.length_take]; omega
      have : ∀ k : Nat, k ≤ 8 → (2 : Int) ^ k ≤ 256 := by decide +kernel
      exact this _ h8
    have su2 : (sumUp n (r.2.take i)).2 ≤ 256 := by
      have h2' := su.2
      have e1 : (0, (1 : Int)).2 = 1 := rfl
      rw [e1, Int.one_mul] at h2'
      exact Int.le_trans h2' lt8
    refine ⟨v, v', _, _, rfl, hv.keeps s3, PartAt.of_rp hR3, hl1.2.2.2.2, by omega, hl2.2.2.2.2, by omega, fun w' H4 s4 hR4 => ?_⟩
    refine ⟨(s2.trans s3).trans s4, _, _, _, _, _, _, rfl, PartAt.of_rp ?_⟩
    have est : sumUp n (r.2.take (i + 1)) = addT n (sumUp n (r.2.take i)) t := by
      unfold sumUp
      rw [List.take_add_one, htt, List.foldl_append]
      rfl
    rw [est]
    have := low_step (o1 := 0) (u1 := 0) (O := (sumUp n (r.2.take i)).1) (U := (sumUp n (r.2.take i)).2) (m := moreOf n t) (u := t.2.2) su.1 t6
    rw [this] at hR4
    exact hR4
  · obtain ⟨s2, v, x3, x4, x5, x6, x7, rfl, hv⟩ := hP
    rw [lw, List.take_length] at hv
    refine ⟨_, rfl, q v H2 s2 ?_⟩
    unfold worthOf
    rw [ets]
    exact hv
theorem ok_l_sums_at (T : Tops K mg) : FnOk P w K mg base CX0 3 T.fl_sums_at T.dl_sums_at ["_law_sums", "_law_size"] spLawAt := by
  have Gl_raised : FnOk P w K mg base CX0 1 T.fl_raised T.dl_raised ["_law_part", "_law_upto"] spPowW := ok_l_raisedW T
  have Gl_lowest : FnOk P w K mg base CX0 2 T.fl_lowest T.dl_lowest ["_law_over", "_law_under"] spLowest := ok_l_lowest T
  refine T.Fl_sums_at.ok (k := 2) scl_sums_at (fun vs H Q E h => ?_) (fun cdv A outer s H vs Q E hr h => ?_)
  · obtain ⟨S, rs, ls, n, rfl, _⟩ := h
    rfl
  obtain ⟨S, rs, ls, n, rfl, hSm, hok, hn, hn2, q⟩ := h
  refine ⟨_, (pss_cons (ps_set (i := 2) scl_sums_at.nd rfl (Or.inl rfl) (pe_lst pa_nil))
 (pss_cons (ps_for PassesOwn.never rfl (pi_list (pv 0)) (pg_tup rfl (pgs_cons (pg_name (i := 3) scl_sums_at.nd rfl (Or.inl rfl)) (pgs_cons (pg_name (i := 4) scl_sums_at.nd rfl (Or.inl rfl)) pgs_nil)))
  (pss_one (ps_if (pt_cmpR op_le (pv 3) (pv 1) (nomark _))
  (pss_one (ps_set (i := 2) scl_sums_at.nd rfl (Or.inl rfl) (pv 4)))
  pss_nil)))
 (pss_cons (ps_asg (pe_tup (pa_cons pe_int (pa_cons pe_int pa_nil))) (pg_tup rfl (pgs_cons (pg_name (i := 5) scl_sums_at.nd rfl (Or.inl rfl)) (pgs_cons (pg_name (i := 6) scl_sums_at.nd rfl (Or.inl rfl)) pgs_nil))))
 (pss_cons (ps_for PassesOwn.never rfl (pi_list (pv 2)) (pg_tup rfl (pgs_cons (pg_tup rfl (pgs_cons (pg_name (i := 9) scl_sums_at.nd rfl (Or.inl rfl)) (pgs_cons (pg_name (i := 10) scl_sums_at.nd rfl (Or.inl rfl)) pgs_nil))) (pgs_cons (pg_name (i := 7) scl_sums_at.nd rfl (Or.inl rfl)) pgs_nil)))
  (pss_cons (ps_set (i := 8) scl_sums_at.nd rfl (Or.inl rfl) (pe_op op_mul (pe_op op_mulW (pe_ix ix_tup (pv 7) pe_int (fun _ _ => rfl)) (pe_call Gl_raised (hr.mono (by omega)) (by rfl) T.gl_raised T.Fl_raised.kp T.bl_raised .nil pass0 (pa_cons (pv 1) (pa_cons (pv 9) pa_nil)))) (pe_call Gl_raised (hr.mono (by omega)) (by rfl) T.gl_raised T.Fl_raised.kp T.bl_raised .nil pass0 (pa_cons (pe_bits (pv 1)) (pa_cons (pv 10) pa_nil)))))
 (pss_one (ps_par (i := 5) (j := 6) (by rfl) scl_sums_at.nd rfl rfl (by decide) rfl rfl (pa_cons (pe_op op_add (pe_op op_mul (pv 5) (pe_ix ix_tup (pv 7) pe_int (fun _ _ => rfl))) (pe_op op_mul (pv 8) (pv 6))) (pa_cons (pe_op op_mul (pv 6) (pe_ix ix_tup (pv 7) pe_int (fun _ _ => rfl))) pa_nil)) (by rfl)))))
 (pss_one (ps_ret (pe_call Gl_lowest (hr.mono (by omega)) (by rfl) T.gl_lowest T.Fl_lowest.kp T.bl_lowest .nil pass0 (pa_cons (pv 5) (pa_cons (pv 6) pa_nil))))))))), ?_⟩
  obtain ⟨us, hS, hR⟩ := id hSm
  have lu := hR.len
  have pos := hok.pos hn
  have le := rowIx_le rs n
  refine ⟨Nat.zero_le _, fun E0 nE => ?_⟩
  have s0 : Same H (upd H E0 (.lst [])) := same_new nE
  refine ⟨_, rfl, S, rfl, ⟨_, SqL.of (s0 _ _ hS)⟩, ?_⟩
  refine for_list (xs := us) (fun i σ H' => H' = upd H E0 (.lst []) ∧ ∃ l x3 x4 x5 x6 x7 x8 x9 x10, σ = [some (.ref S), some (.int n), some (.ref l), x3, x4, x5, x6, x7, x8, x9, x10] ∧ (0 < i → ls[min i (rowIx rs n) - 1]? = some l))
    ⟨rfl, _, _, _, _, _, _, _, _, _, rfl, fun z => absurd z (Nat.lt_irrefl 0)⟩ (fun i σ H' _ hP => by rw [hP.1]; exact SqL.of (s0 _ _ hS)) (fun i x σ H2 hx hP => ?_) (fun σ H2 hP => ?_)
  · obtain ⟨rfl, l0, x3, x4, x5, x6, x7, x8, x9, x10, rfl, hl0⟩ := hP
    obtain ⟨r, l, hr1, hll, hRr⟩ := (hR.same s0).get hx
    obtain ⟨b, rfl, hb, _⟩ := hRr
    refine ⟨b, _, rfl, SqT.of hb, rfl, _, _, rfl, _, _, rfl, rfl, ?_⟩
    refine ⟨_, rfl, _, rfl, _, _, rfl, rfl, _, rfl, ite2 (fun c => ?_) (fun c => ?_)⟩
    · have c1 : r.1 ≤ n := of_decide_eq_true c
      have hlt := (rowIx_iff hok.rises hr1).mp c1
      refine ⟨_, rfl, rfl, l, _, _, _, _, _, _, _, _, rfl, fun _ => ?_⟩
      rw [Nat.min_eq_left (by omega)]
      exact hll
    · have c1 : ¬ r.1 ≤ n := fun z => c (decide_eq_true z)
      have hnl : ¬ i < rowIx rs n := fun z => c1 ((rowIx_iff hok.rises hr1).mpr z)
      refine ⟨rfl, l0, _, _, _, _, _, _, _, _, rfl, fun _ => ?_⟩
      rw [Nat.min_eq_right (by omega)]
      have := hl0 (by omega)
      rw [Nat.min_eq_right (by omega)] at this
      exact this
  · obtain ⟨rfl, l, x3, x4, x5, x6, x7, x8, x9, x10, rfl, hl0⟩ := hP
    have hle : ls[rowIx rs n - 1]? = some l := by
      have := hl0 (by omega)
      rw [Nat.min_eq_right (by omega)] at this
      exact this
    have hu : us[rowIx rs n - 1]? = some (us[rowIx rs n - 1]'(by omega)) := List.getElem?_eq_getElem (by omega)
    obtain ⟨r, l2, hr1, hl2, hRr⟩ := (hR.same s0).get hu
    have el : l2 = l := Option.some.inj (hl2.symm.trans hle)
    subst el
    obtain ⟨b, eb, hb, ws, hl, hW⟩ := hRr
    have ets := rowTs_of hr1
    obtain ⟨hr8, hts⟩ := hok.terms r (List.mem_of_getElem? hr1)
    have lw := hW.length
    rw [List.length_map] at lw
    have hun : ∀ t ∈ r.2, 1 ≤ t.2.2 ∧ t.2.2 ≤ 2 := fun t ht => ⟨(hts t ht).2.2.2.2.2.1, (hts t ht).2.2.2.2.2.2⟩
    have hf := figs_le hn2
    have under : ∀ i : Nat, 1 ≤ (sumUp n (r.2.take i)).2 ∧ (sumUp n (r.2.take i)).2 ≤ 256 := fun i => by
      have su := sum_under n (r.2.take i) (0, 1) (fun t ht => hun t (List.mem_of_mem_take ht)) (by decide)
      refine ⟨su.1, ?_⟩
      have h8 : (r.2.take i).length ≤ 8 := by rw [List.length_take]; omega
      have h9 : ∀ k : Nat, k ≤ 8 → (2 : Int) ^ k ≤ 256 := by decide +kernel
      have h2' := su.2
      have e1 : ((0, 1) : Int × Int).2 = 1 := rfl
      rw [e1, Int.one_mul] at h2'
      exact Int.le_trans h2' (h9 _ h8)
    refine ⟨(by show 2 ≤ sizeLine; decide), fun p np => ?_⟩
    have sp : Same (upd H E0 (.lst [])) (upd (upd H E0 (.lst [])) p (.tup [.int 0, .int 1])) := same_new np
    refine ⟨p, _, rfl, SqT.of upd_same, rfl, _, _, rfl, _, _, rfl, rfl, ?_⟩
    replace hl := sp _ _ hl
    replace hW := hW.to (Imm.same sp)
    refine ⟨_, rfl, l2, rfl, ⟨_, SqL.of hl⟩, ?_⟩
    refine for_list (xs := ws) (fun i σ H' => H' = upd (upd H E0 (.lst [])) p (.tup [.int 0, .int 1]) ∧ ∃ x3 x4 x7 x8 x9 x10, σ = [some (.ref S), some (.int n), some (.ref l2), x3, x4, some (.int (sumUp n (r.2.take i)).1), some (.int (sumUp n (r.2.take i)).2), x7, x8, x9, x10])
      ⟨rfl, _, _, _, _, _, _, rfl⟩ (fun i σ H' _ hP => by rw [hP.1]; exact SqL.of hl) (fun i x σ H2 hx hP => ?_) (fun σ H2 hP => ?_)
    · obtain ⟨rfl, y3, y4, y7, y8, y9, y10, rfl⟩ := hP
      obtain ⟨t, htt, hRt⟩ := rpl_terms hW hx
      obtain ⟨c, v1, v2, rfl, hc, h1, h2⟩ := rp_t2 hRt
      obtain ⟨e, w1, w2, rfl, he, rfl, rfl⟩ := rp_t2 h1
      obtain ⟨f, w3, w4, rfl, hf2, rfl, rfl⟩ := rp_t2 h2
      obtain ⟨t1, t2, t3, t4, t5, t6, t7⟩ := hts t (List.mem_of_getElem? htt)
      refine ⟨c, _, rfl, SqT.of hc, rfl, _, _, rfl, e, _, rfl, SqT.of he, rfl, _, _, rfl, _, _, rfl, rfl, _, _, rfl, rfl, ?_⟩
      have ep : t.1.1 = ((t.1.1.toNat : Nat) : Int) := by omega
      have ef : t.1.2 = ((t.1.2.toNat : Nat) : Int) := by omega
      have bn : n.natAbs < 2 ^ 101 := Nat.lt_of_lt_of_le hn2 (Nat.pow_le_pow_right (by decide) (by decide))
      have bf : ((figs n : Nat) : Int).natAbs < 2 ^ 7 := by omega
      have bpf := pow_abs ((figs n : Nat) : Int) t.1.2.toNat bf
      have bpf2 : (((figs n : Nat) : Int) ^ t.1.2.toNat).natAbs < 2 ^ 64 := Nat.lt_of_lt_of_le bpf (Nat.pow_le_pow_right (by decide) (by omega))
      have bpn := pow_abs n t.1.1.toNat bn
      refine ⟨_, rfl, f, _, 0, _, rfl, rfl, SqT.of hf2, rfl, _, rfl, _, rfl, n, t.1.1.toNat, by rw [← ep]; rfl, bn, by omega, ?_⟩
      refine ⟨_, _, rfl, rfl, wide_mul t5 bpn (by decide) (by omega) (by omega), ?_⟩
      refine ⟨_, rfl, n, rfl, _, rfl, ((figs n : Nat) : Int), t.1.2.toNat, by rw [← ef]; rfl, Nat.lt_of_lt_of_le bf (Nat.pow_le_pow_right (by decide) (by decide)), by omega, ?_⟩
      refine ⟨_, _, rfl, rfl, .inr ⟨by omega, by omega⟩, ?_⟩
      have un := under i
      refine ⟨_, rfl, _, rfl, f, _, 1, _, rfl, rfl, SqT.of hf2, rfl, _, _, rfl, rfl, .inr ⟨by omega, by omega⟩, ?_⟩
      refine ⟨_, rfl, _, rfl, _, _, rfl, rfl, .inr ⟨by omega, by omega⟩, ?_⟩
      refine ⟨_, _, rfl, rfl, ?_⟩
      refine ⟨_, rfl, _, rfl, f, _, 1, _, rfl, rfl, SqT.of hf2, rfl, _, _, rfl, rfl, .inr ⟨by omega, by omega⟩, ?_⟩
      have est : sumUp n (r.2.take (i + 1)) = addT n (sumUp n (r.2.take i)) t := by
        unfold sumUp
        rw [List.take_add_one, htt, List.foldl_append]
        rfl
      refine ⟨_, _, rfl, rfl, ?_⟩
      rw [est]
      exact ⟨_, _, _, _, _, _, rfl⟩
    · obtain ⟨rfl, y3, y4, y7, y8, y9, y10, rfl⟩ := hP
      rw [lw, List.take_length]
      have un := under r.2.length
      rw [List.take_length] at un
      refine ⟨_, rfl, _, rfl, _, _, rfl, un.1, ?_, fun v H3 s3 hR3 => ?_⟩
      · have : (sumUp n r.2).2.natAbs < 2 ^ 10 := by omega
        exact Nat.lt_of_lt_of_le this (Nat.pow_le_pow_right (by decide) (by decide))
      · refine q v H3 ((s0.trans sp).trans s3) ?_
        unfold worthOf
        rw [ets]
        exact hR3
end
end K14

set_option Elab.async false
set_option linter.all false
set_option maxRecDepth 100000
set_option maxHeartbeats 4000000
namespace K14
open PySem PySem.Spec PyProof.Rows L2 OG
open C8 (pss_cut pe_gc)
open OGX

section
variable {P : Program} {w : World} {K : PySem.W.Frag} {mg : Str → Option Value} {base : Heap}
theorem plain_of {K : PySem.W.Frag} {v : V} (h : flatV v = true) (hn : v ≠ .non) : ∃ (t : String) (b1 b2 b3 : Bool), (∀ H', TyX K H' v (.type t)) ∧ kitB t "list" = some false ∧ kitB t "tuple" = some false ∧ kitB t "bool" = some b1 ∧ kitB t "int" = some b2 ∧ kitB t "str" = some b3 ∧ scal v v = true := by
  cases v with
  | non => exact absurd rfl hn
  | bl b => exact ⟨"bool", true, true, false, fun _ => .base (.bl b), by decide +kernel, by decide +kernel, by decide +kernel, by decide +kernel, by decide +kernel, rfl⟩
  | int i => exact ⟨"int", false, true, false, fun _ => .base (.int i), by decide +kernel, by decide +kernel, by decide +kernel, by decide +kernel, by decide +kernel, rfl⟩
  | str z => exact ⟨"str", false, false, true, fun _ => .base (.str z), by decide +kernel, by decide +kernel, by decide +kernel, by decide +kernel, by decide +kernel, rfl⟩
  | byt _ => cases h
  | flt _ => cases h
  | ref _ => cases h
  | ty _ => cases h
theorem ok_same1 (T : Tops K mg) (n : Nat) (Gl_same : FnOk P w K mg base CX0 n T.fl_same T.dl_same ["_law_found", "_law_due"] (prevS3 K n)) : FnOk P w K mg base CX0 (n + 1) T.fl_same T.dl_same ["_law_found", "_law_due"] (spSame3 K n) := by
  refine T.Fl_same.ok (k := n) scl_same (fun vs H Q E h => ?_) (fun cdv A outer s H vs Q E hr h => ?_)
  · obtain ⟨v, w, rfl, _⟩ := h
    rfl
  obtain ⟨v, w, rfl, hE, q⟩ := h
  refine ⟨_, (pss_cons (ps_if (pt_val (pe_callB call_isiT (by rfl) T.misinstance (by decide +kernel) (pa_cons (pv 1) (pa_cons (pe_tup (pa_cons (pe_bltn (v := .ty "list") (by rfl) T.mlist (by decide +kernel) rfl) (pa_cons (pe_bltn (v := .ty "tuple") (by rfl) T.mtuple (by decide +kernel) rfl) pa_nil))) pa_nil))))
  (pss_cons (ps_if (PW.pt (pw_or (pt_cmpR op_ne (pe_callB call_isi (by rfl) T.misinstance (by decide +kernel) (pa_cons (pv 0) (pa_cons (pe_bltn (v := .ty "list") (by rfl) T.mlist (by decide +kernel) rfl) pa_nil))) (pe_callB call_isi (by rfl) T.misinstance (by decide +kernel) (pa_cons (pv 1) (pa_cons (pe_bltn (v := .ty "list") (by rfl) T.mlist (by decide +kernel) rfl) pa_nil))) (nomark _)) (pw_or1 (pt_not (pt_val (pe_callB call_isiT (by rfl) T.misinstance (by decide +kernel) (pa_cons (pv 0) (pa_cons (pe_tup (pa_cons (pe_bltn (v := .ty "list") (by rfl) T.mlist (by decide +kernel) rfl) (pa_cons (pe_bltn (v := .ty "tuple") (by rfl) T.mtuple (by decide +kernel) rfl) pa_nil))) pa_nil))))))))
  (pss_one (ps_ret pe_bl))
  pss_nil)
 (pss_one (ps_ret (pe_and (pe_cmpR op_eq (pe_callB call_len (by rfl) T.mlen PySem.boot_len (pa_cons (pv 0) pa_nil)) (pe_callB call_len (by rfl) T.mlen PySem.boot_len (pa_cons (pv 1) pa_nil)) (nomark _)) (pe_one (pe_callB (cr_all rfl) (by rfl) T.mall (by decide +kernel) (pa_cons (pe_lc (own := [("_law_one", 2), ("_law_other", 3)]) rfl scl_same.nd (RZ.pi_zipA (by rfl) T.mzip (pa_cons (pv 0) (pa_cons (pv 1) pa_nil))) (blkOk_by (N := Nl_same) (sc := defScope sl_same) (by decide +kernel)) (fun _ _ _ _ _ => (pg_tupK (K := K) (n := 2) rfl rfl (pgs_cons (pg_name (i := 2) scl_same.nd rfl (Or.inl rfl)) (pgs_cons (pg_name (i := 3) scl_same.nd rfl (Or.inl rfl)) pgs_nil)))) (fun _ _ _ _ _ => pts_nil) (fun _ _ _ _ _ => (pe_call Gl_same (hr.mono (by omega)) (by rfl) T.gl_same T.Fl_same.kp T.bl_same .nil pass0 (pa_cons (pv 2) (pa_cons (pv 3) pa_nil))))) pa_nil)))))))
  pss_nil)
 (pss_cons (ps_if (pt_cmpR op_isN (pv 1) pe_non (nomark _))
  (pss_one (ps_ret (pe_cmpR op_isN (pv 0) pe_non (nomark _))))
  pss_nil)
 (pss_cons (ps_if (PW.pt (pw_or (pt_cmpR op_ne (pe_callB call_isi (by rfl) T.misinstance (by decide +kernel) (pa_cons (pv 0) (pa_cons (pe_bltn (v := .ty "bool") (by rfl) T.mbool (by decide +kernel) rfl) pa_nil))) (pe_callB call_isi (by rfl) T.misinstance (by decide +kernel) (pa_cons (pv 1) (pa_cons (pe_bltn (v := .ty "bool") (by rfl) T.mbool (by decide +kernel) rfl) pa_nil))) (nomark _)) (pw_or1 (pt_cmpR op_ne (pe_callB call_isi (by rfl) T.misinstance (by decide +kernel) (pa_cons (pv 0) (pa_cons (pe_bltn (v := .ty "int") (by rfl) T.mint (by decide +kernel) rfl) pa_nil))) (pe_callB call_isi (by rfl) T.misinstance (by decide +kernel) (pa_cons (pv 1) (pa_cons (pe_bltn (v := .ty "int") (by rfl) T.mint (by decide +kernel) rfl) pa_nil))) (nomark _)))))
  (pss_one (ps_ret pe_bl))
  pss_nil)
 (pss_one (ps_ret (pe_and (pe_cmpR op_eq (pe_callB call_isi (by rfl) T.misinstance (by decide +kernel) (pa_cons (pv 0) (pa_cons (pe_bltn (v := .ty "str") (by rfl) T.mstr (by decide +kernel) rfl) pa_nil))) (pe_callB call_isi (by rfl) T.misinstance (by decide +kernel) (pa_cons (pv 1) (pa_cons (pe_bltn (v := .ty "str") (by rfl) T.mstr (by decide +kernel) rfl) pa_nil))) (nomark _)) (pe_one (pe_cmpR op_eq (pv 0) (pv 1) (nomark _))))))))), ?_⟩
  have kI : ∀ (t c : String) (r : Bool), kitB t c = some r → PySem.W.kitOne K (.type t) (.type c) = some r := fun t c r h => kit_ty h
  have split : (v = w ∧ flatV v = true) ∨ ∃ (m : Nat) (a b : Addr) (vs ws : List V), n = m + 1 ∧ v = .ref a ∧ w = .ref b ∧ ((SqT K H a vs ∧ SqT K H b ws) ∨ (H a = some (.lst vs) ∧ H b = some (.lst ws))) ∧ vs.length = ws.length ∧ vs.length < 100000 ∧
      ∀ (i : Nat) x y, vs[i]? = some x → ws[i]? = some y → Eq3 K H m x y := by
    cases n with
    | zero => exact .inl hE
    | succ m =>
      rcases hE with h | ⟨a, b, vs, ws, h⟩
      · exact .inl h
      · exact .inr ⟨m, a, b, vs, ws, rfl, h⟩
  rcases split with ⟨rfl, hf⟩ | ⟨m, a, b, vs, ws, rfl, rfl, rfl, hab, hl, hz, hi⟩
  · by_cases hn : v = .non
    · subst hn
      refine ⟨_, rfl, (by show 2 ≤ sizeLine; decide), fun p np => ?_⟩
      refine ⟨.non, p, [.ty "list", .ty "tuple"], .type "NoneType", [.type "list", .type "tuple"], false, rfl, upd_same, .cons (.ty _) (.cons (.ty _) .nil), .base .non,
        kitAny_cons (kI "NoneType" "list" false (by decide +kernel)) (fun _ => kitAny_cons (kI "NoneType" "tuple" false (by decide +kernel)) (fun _ => rfl) (fun z => nomatch z)) (fun z => nomatch z), false, rfl, iteF ?_⟩
      refine ⟨_, rfl, rfl, _, rfl, iteT ?_⟩
      exact ⟨_, rfl, rfl, q _ (same_new np)⟩
    · obtain ⟨t, b1, b2, b3, ty, k1, k2, k3, k4, k5, hs⟩ := plain_of (K := K) hf hn
      refine ⟨_, rfl, (by show 2 ≤ sizeLine; decide), fun p np => ?_⟩
      refine ⟨v, p, [.ty "list", .ty "tuple"], .type t, [.type "list", .type "tuple"], false, rfl, upd_same, .cons (.ty _) (.cons (.ty _) .nil), ty _,
        kitAny_cons (kI t "list" false k1) (fun _ => kitAny_cons (kI t "tuple" false k2) (fun _ => rfl) (fun z => nomatch z)) (fun z => nomatch z), false, rfl, iteF ?_⟩
      have dn : ¬ decide (v = V.non) = true := fun z => hn (of_decide_eq_true z)
      have same2 : ∀ b : Bool, ¬ (!decide (V.bl b = V.bl b)) = true := fun b => by rw [decide_eq_true rfl]; exact Bool.false_ne_true
      refine ⟨_, rfl, rfl, _, rfl, ite2 (fun z => absurd z dn) (fun _ => ?_)⟩
      refine ⟨_, rfl, v, .ty "bool", .type t, _, b1, rfl, .ty _, ty _, kI t "bool" b1 k3, _, rfl, v, .ty "bool", .type t, _, b1, rfl, .ty _, ty _, kI t "bool" b1 k3, rfl, _, rfl, ite2 (fun z => absurd z (same2 b1)) (fun _ => ?_)⟩
      refine ⟨_, rfl, v, .ty "int", .type t, _, b2, rfl, .ty _, ty _, kI t "int" b2 k4, _, rfl, v, .ty "int", .type t, _, b2, rfl, .ty _, ty _, kI t "int" b2 k4, rfl, _, rfl, ite2 (fun z => absurd z (same2 b2)) (fun _ => ?_)⟩
      refine ⟨_, rfl, v, .ty "str", .type t, _, b3, rfl, .ty _, ty _, kI t "str" b3 k5, _, rfl, v, .ty "str", .type t, _, b3, rfl, .ty _, ty _, kI t "str" b3 k5, rfl, _, rfl, ite2 (fun _ => ?_) (fun z => absurd (decide_eq_true rfl) z)⟩
      refine ⟨_, rfl, _, rfl, hs, ?_⟩
      rw [decide_eq_true rfl]
      exact q _ (same_new np)
  · rcases hab with ⟨ha, hb⟩ | ⟨ha, hb⟩
    · -- two tuples
      refine ⟨_, rfl, (by show 2 ≤ sizeLine; decide), fun p np => ?_⟩
      have s1 : Same H (upd H p (.tup [.ty "list", .ty "tuple"])) := same_new np
      have ka : PySem.W.kitAny K (.type "tuple") [.type "list", .type "tuple"] = some true := kitAny_cons (kI "tuple" "list" false (by decide +kernel)) (fun _ => kitAny_cons (kI "tuple" "tuple" true (by decide +kernel)) (fun z => nomatch z) (fun _ => rfl)) (fun _ => rfl)
      refine ⟨.ref b, p, [.ty "list", .ty "tuple"], .type "tuple", [.type "list", .type "tuple"], true, rfl, upd_same, .cons (.ty _) (.cons (.ty _) .nil), ty_sqt (sqt_keeps hb s1), ka, true, rfl, iteT ?_⟩
      refine ⟨_, rfl, .ref a, .ty "list", .type "tuple", _, false, rfl, .ty _, ty_sqt (sqt_keeps ha s1), kI "tuple" "list" false (by decide +kernel), _, rfl, .ref b, .ty "list", .type "tuple", _, false, rfl, .ty _, ty_sqt (sqt_keeps hb s1), kI "tuple" "list" false (by decide +kernel), rfl, _, rfl, iteF ?_⟩
      refine ⟨_, rfl, (by show 2 ≤ sizeLine; decide), fun p2 np2 => ?_⟩
      have s2 := s1.trans (same_new (o := .tup [.ty "list", .ty "tuple"]) np2)
      refine ⟨.ref a, p2, [.ty "list", .ty "tuple"], .type "tuple", [.type "list", .type "tuple"], true, rfl, upd_same, .cons (.ty _) (.cons (.ty _) .nil), ty_sqt (sqt_keeps ha s2), ka, true, rfl, iteF ?_⟩
      refine ⟨_, rfl, .ref a, vs.length, rfl, .inr ⟨_, sqt_keeps ha s2, rfl⟩, _, rfl, .ref b, ws.length, rfl, .inr ⟨_, sqt_keeps hb s2, rfl⟩, rfl, _, rfl, ite2 (fun _ => ?_) (fun z => absurd (decide_eq_true (by rw [hl])) z)⟩
      refine ⟨_, rfl, _, rfl, a, b, vs, ws, rfl, .inr ⟨sqt_keeps ha s2, sqt_keeps hb s2, fun Dn nD => ?_⟩⟩
      have nDH : H Dn = none := s2.free nD
      refine lc_it (walk_zipT (K := K) (xs := vs) (ys := ws) (n := vs.length) (by omega)) (fun i H' => Same H H' ∧ H' Dn = some (.lst ((List.replicate i true).map V.bl))) ⟨s2.trans (same_new nD), upd_same⟩ (fun i H' _ hP => ⟨sqt_keeps ha hP.1, sqt_keeps hb hP.1⟩) (fun i x H' H'' hlt hP hY => ?_) (fun H' hP => ?_)
      · obtain ⟨sm, hD⟩ := hP
        obtain ⟨Tn, x1, x2, rfl, nT, rfl, g1, g2⟩ := hY
        have sT : Same H' (upd H' Tn (.tup [x1, x2])) := same_new nT
        refine ⟨Tn, [x1, x2], rfl, SqT.of upd_same, rfl, x1, [x2], rfl, x2, [], rfl, rfl, rfl, yes_go ?_⟩
        refine ⟨_, rfl, _, rfl, x1, x2, rfl, Eq3.same (sm.trans sT) (hi i x1 x2 g1 g2), fun H3 s3 => ?_⟩
        refine ⟨_, s3 _ _ (sT _ _ hD), ?_, Same.upd_new ((sm.trans sT).trans s3) nDH, ?_⟩
        · rw [List.length_map, List.length_replicate]
          exact szl (by omega)
        · rw [upd_same, List.replicate_succ', List.map_append]
          rfl
      · obtain ⟨sm, hD⟩ := hP
        refine ⟨Dn, List.replicate vs.length true, rfl, SqL.of hD, ?_⟩
        rw [all_trues]
        exact q _ sm
    · -- two lists
      refine ⟨_, rfl, (by show 2 ≤ sizeLine; decide), fun p np => ?_⟩
      have s1 : Same H (upd H p (.tup [.ty "list", .ty "tuple"])) := same_new np
      have ka : PySem.W.kitAny K (.type "list") [.type "list", .type "tuple"] = some true := kitAny_cons (kI "list" "list" true (by decide +kernel)) (fun z => nomatch z) (fun _ => rfl)
      refine ⟨.ref b, p, [.ty "list", .ty "tuple"], .type "list", [.type "list", .type "tuple"], true, rfl, upd_same, .cons (.ty _) (.cons (.ty _) .nil), .base (.lst (s1 _ _ hb)), ka, true, rfl, iteT ?_⟩
      refine ⟨_, rfl, .ref a, .ty "list", .type "list", _, true, rfl, .ty _, .base (.lst (s1 _ _ ha)), kI "list" "list" true (by decide +kernel), _, rfl, .ref b, .ty "list", .type "list", _, true, rfl, .ty _, .base (.lst (s1 _ _ hb)), kI "list" "list" true (by decide +kernel), rfl, _, rfl, iteF ?_⟩
      refine ⟨_, rfl, (by show 2 ≤ sizeLine; decide), fun p2 np2 => ?_⟩
      have s2 := s1.trans (same_new (o := .tup [.ty "list", .ty "tuple"]) np2)
      refine ⟨.ref a, p2, [.ty "list", .ty "tuple"], .type "list", [.type "list", .type "tuple"], true, rfl, upd_same, .cons (.ty _) (.cons (.ty _) .nil), .base (.lst (s2 _ _ ha)), ka, true, rfl, iteF ?_⟩
      refine ⟨_, rfl, .ref a, vs.length, rfl, .inl ⟨_, SqL.of (s2 _ _ ha), rfl⟩, _, rfl, .ref b, ws.length, rfl, .inl ⟨_, SqL.of (s2 _ _ hb), rfl⟩, rfl, _, rfl, ite2 (fun _ => ?_) (fun z => absurd (decide_eq_true (by rw [hl])) z)⟩
      refine ⟨_, rfl, _, rfl, a, b, vs, ws, rfl, .inl ⟨SqL.of (s2 _ _ ha), SqL.of (s2 _ _ hb), fun Dn nD => ?_⟩⟩
      have nDH : H Dn = none := s2.free nD
      refine lc_it (walk_zip (K := K) (xs := vs) (ys := ws) (n := vs.length) (by omega)) (fun i H' => Same H H' ∧ H' Dn = some (.lst ((List.replicate i true).map V.bl))) ⟨s2.trans (same_new nD), upd_same⟩ (fun i H' _ hP => ⟨SqL.of (hP.1 _ _ ha), SqL.of (hP.1 _ _ hb)⟩) (fun i x H' H'' hlt hP hY => ?_) (fun H' hP => ?_)
      · obtain ⟨sm, hD⟩ := hP
        obtain ⟨Tn, x1, x2, rfl, nT, rfl, g1, g2⟩ := hY
        have sT : Same H' (upd H' Tn (.tup [x1, x2])) := same_new nT
        refine ⟨Tn, [x1, x2], rfl, SqT.of upd_same, rfl, x1, [x2], rfl, x2, [], rfl, rfl, rfl, yes_go ?_⟩
        refine ⟨_, rfl, _, rfl, x1, x2, rfl, Eq3.same (sm.trans sT) (hi i x1 x2 g1 g2), fun H3 s3 => ?_⟩
        refine ⟨_, s3 _ _ (sT _ _ hD), ?_, Same.upd_new ((sm.trans sT).trans s3) nDH, ?_⟩
        · rw [List.length_map, List.length_replicate]
          exact szl (by omega)
        · rw [upd_same, List.replicate_succ', List.map_append]
          rfl
      · obtain ⟨sm, hD⟩ := hP
        refine ⟨Dn, List.replicate vs.length true, rfl, SqL.of hD, ?_⟩
        rw [all_trues]
        exact q _ sm
theorem ok_same (T : Tops K mg) : ∀ n : Nat, FnOk P w K mg base CX0 (n + 1) T.fl_same T.dl_same ["_law_found", "_law_due"] (spSame3 K n)
  | 0 => ok_same1 T 0 OG.fn_none
  | n + 1 => ok_same1 T (n + 1) (ok_same T n)
end
end K14

set_option Elab.async false
set_option linter.all false
set_option maxRecDepth 100000
set_option maxHeartbeats 4000000
namespace K14
open PySem PySem.Spec PyProof.Rows L2 OG
open C8 (pss_cut pe_gc)
open OGX

section
variable {P : Program} {w : World} {K : PySem.W.Frag} {mg : Str → Option Value} {base : Heap}
abbrev sU : Stmt := inClass (topS 16) 0
abbrev sF : Stmt := inClass (topS 3) 0
abbrev sR : Stmt := inClass (topS 1) 0
theorem scU : FnScope ["self", "name"] ["self", "name"] (defScope sU) := ⟨rfl, rfl, rfl, by decide +kernel, rfl, by decide +kernel, by decide +kernel⟩
theorem scF : FnScope ["self", "word", "why"] ["self", "word", "why"] (defScope sF) := ⟨rfl, rfl, rfl, by decide +kernel, rfl, by decide +kernel, by decide +kernel⟩
theorem scR : FnScope ["self", "word", "why"] ["self", "word", "why"] (defScope sR) := ⟨rfl, rfl, rfl, by decide +kernel, rfl, by decide +kernel, by decide +kernel⟩
structure Exx (K : PySem.W.Frag) (mg : Str → Option Value) where
  CU : Addr
  CF : Addr
  CR : Addr
  CM : Addr
  gU : mg "Uneven" = some (.ref CU)
  gF : mg "Unfit" = some (.ref CF)
  gR : mg "Refused" = some (.ref CR)
  gM : mg "Misread" = some (.ref CM)
  oU : OexC K CU
  wU : PySem.W.findIn K (.ref CU) "word" = some none
  nU : PySem.W.findIn K (.ref CU) "name" = some none
  xU : XfC K CU
  eU : ExcC K CU
  fU : Addr
  dU : FuncData
  FU : FunD K "__init__" "Uneven.__init__" (defArgs sU) (defBody sU) (defScope sU) [] [] fU dU
  iU : PySem.W.findIn K (.ref CU) "__init__" = some (some (.ref fU))
  tU : PySem.W.typeIn K (.ref fU) = some (.type "function")
  fF : Addr
  dF : FuncData
  FF : FunD K "__init__" "Unfit.__init__" (defArgs sF) (defBody sF) (defScope sF) [.str "Unfit", .str ""] [] fF dF
  vF : PySem.W.findCls K (.ref CF) (.type "type") "__init__" = some (.val (.ref fF))
  cF : ClX.CRead K CF (.type "type")
  fR : Addr
  dR : FuncData
  FR : FunD K "__init__" "Refused.__init__" (defArgs sR) (defBody sR) (defScope sR) [.str "Refused", .str ""] [] fR dR
  vR : PySem.W.findCls K (.ref CR) (.type "type") "__init__" = some (.val (.ref fR))
  cR : ClX.CRead K CR (.type "type")
  fG : Addr
  dG : FuncData
  FG : FunD K "growth" "growth" (defArgs sgrowth) (defBody sgrowth) (defScope sgrowth) [] [("many", .int 0), ("base", .int 2)] fG dG
  gG : mg "growth" = some (.ref fG)
  mV : mg "ValueError" = none
  vV : PySem.W.findCls K (.type "ValueError") (.type "type") "__init__" = some (.val (.builtin "ValueError.__init__"))
  kM : PySem.W.kitOne K (.ref CU) (.ref CM) = some false
  kF : PySem.W.kitOne K (.ref CU) (.ref CF) = some true
  kV : PySem.W.kitOne K (.ref CU) (.type "ValueError") = some true
  CBadText : Addr
  gBadText : mg "BadText" = some (.ref CBadText)
  xBadText : PySem.W.exmOne K (.ref CU) (.ref CBadText) = some false
  CBadPage : Addr
  gBadPage : mg "BadPage" = some (.ref CBadPage)
  xBadPage : PySem.W.exmOne K (.ref CU) (.ref CBadPage) = some false
  CStopped : Addr
  gStopped : mg "Stopped" = some (.ref CStopped)
  xStopped : PySem.W.exmOne K (.ref CU) (.ref CStopped) = some false
  CNoName : Addr
  gNoName : mg "NoName" = some (.ref CNoName)
  xNoName : PySem.W.exmOne K (.ref CU) (.ref CNoName) = some false
  CTwice : Addr
  gTwice : mg "Twice" = some (.ref CTwice)
  xTwice : PySem.W.exmOne K (.ref CU) (.ref CTwice) = some false
  CNoPlan : Addr
  gNoPlan : mg "NoPlan" = some (.ref CNoPlan)
  xNoPlan : PySem.W.exmOne K (.ref CU) (.ref CNoPlan) = some false
  CNoLabel : Addr
  gNoLabel : mg "NoLabel" = some (.ref CNoLabel)
  xNoLabel : PySem.W.exmOne K (.ref CU) (.ref CNoLabel) = some false
  CTaken : Addr
  gTaken : mg "Taken" = some (.ref CTaken)
  xTaken : PySem.W.exmOne K (.ref CU) (.ref CTaken) = some false
  CRing : Addr
  gRing : mg "Ring" = some (.ref CRing)
  xRing : PySem.W.exmOne K (.ref CU) (.ref CRing) = some false
  CNotPlain : Addr
  gNotPlain : mg "NotPlain" = some (.ref CNotPlain)
  xNotPlain : PySem.W.exmOne K (.ref CU) (.ref CNotPlain) = some false
  CTangled : Addr
  gTangled : mg "Tangled" = some (.ref CTangled)
  xTangled : PySem.W.exmOne K (.ref CU) (.ref CTangled) = some false
  CBreaks : Addr
  gBreaks : mg "Breaks" = some (.ref CBreaks)
  xBreaks : PySem.W.exmOne K (.ref CU) (.ref CBreaks) = some false
  CInUse : Addr
  gInUse : mg "InUse" = some (.ref CInUse)
  xInUse : PySem.W.exmOne K (.ref CU) (.ref CInUse) = some false
  xU2 : PySem.W.exmOne K (.ref CU) (.ref CU) = some true
def spRef (K : PySem.W.Frag) : Sp := fun vs H Q _ => ∃ (a C : Addr) (wd y : Str), vs = [.ref a, .str wd, .str y] ∧ wd.length ≤ 100 ∧ y.length ≤ 100 ∧ H a = some (exo a C none) ∧ OexC K C ∧ PySem.W.findIn K (.ref C) "word" = some none ∧
  ∀ dx, H dx = none → dx ≠ a → Q .non (upd (upd H dx (exd dx [("word", .str wd)])) a (exo a C (some dx)))
def spUne (K : PySem.W.Frag) : Sp := fun vs H Q _ => ∃ (a C : Addr) (y : Str), vs = [.ref a, .str y] ∧ y.length ≤ 100 ∧ H a = some (exo a C none) ∧ OexC K C ∧ PySem.W.findIn K (.ref C) "word" = some none ∧ PySem.W.findIn K (.ref C) "name" = some none ∧
  ∀ dx, H dx = none → dx ≠ a → Q .non (upd (upd (upd H dx (exd dx [("word", .str "Uneven")])) a (exo a C (some dx))) dx (exd dx [("name", .str y), ("word", .str "Uneven")]))
theorem Exx.bR (X : Exx K mg) : Binds K X.dR ["self", "word", "why"] [] := by
  obtain ⟨ds, h1, h2⟩ := X.FR.binds1 (ps := ["self", "word", "why"]) 3 2 (by simp) rfl (fun T kV doc pm an cdv ct us its l1 l2 => by
    match us, l1, its, l2 with
    | [_, _, _], _, [_, _], _ => exact ⟨_, rfl, rfl⟩)
  cases h1
  exact h2
theorem Exx.bF (X : Exx K mg) : Binds K X.dF ["self", "word", "why"] [] := by
  obtain ⟨ds, h1, h2⟩ := X.FF.binds1 (ps := ["self", "word", "why"]) 3 2 (by simp) rfl (fun T kV doc pm an cdv ct us its l1 l2 => by
    match us, l1, its, l2 with
    | [_, _, _], _, [_, _], _ => exact ⟨_, rfl, rfl⟩)
  cases h1
  exact h2
theorem Exx.bU (X : Exx K mg) : Binds K X.dU ["self", "name"] [] := X.FU.bindsN fun kV doc pm an cdv ct us hl => match us, hl with | [_, _], _ => rfl
theorem ok_R (T : Tops K mg) (X : Exx K mg) : FnOk P w K mg base CX0 1 X.fR X.dR ["self", "word", "why"] (spRef K) := by
  refine X.FR.ok scR (fun vs H Q E h => ?_) (fun cdv A outer s H vs Q E hr h => ?_)
  · obtain ⟨a, C, wd, y, rfl, _⟩ := h
    rfl
  obtain ⟨a, C, wd, y, rfl, l1, l2, ha, hO, hW, q⟩ := h
  refine ⟨_, pss_cons (ps_expr (pe_veinit (by rfl) X.mV X.vV (pa_cons (pv 0) (pa_cons (pe_strip (pe_joined (.cons (pe_fmt (pv 1)) (.cons pe_str (.cons (pe_fmt (pv 2)) .nil))))) pa_nil)))) (pss_one (ps_ost (pv 0) (pv 1))), ?_⟩
  have l3 : (" " : Str).length = 1 := by decide +kernel
  have l0 := l_emp
  refine ⟨_, rfl, _, rfl, .inl ⟨wd, rfl, sz (by omega), _, rfl, szs (by rw [l_emp]; omega), _, rfl, szs (by rw [len_app, l_emp, l3]; omega), _, rfl, .inl ⟨y, rfl, sz (by omega), _, rfl, szs (by rw [len_app, len_app, l_emp, l3]; omega), ⟨_, rfl⟩, _, rfl, rfl, sz (by rw [len_app, len_app, len_app, l_emp, l3]; omega), ?_⟩⟩⟩
  refine ⟨a, C, _, rfl, (by show 1 ≤ 1000; decide), hO, ha, ?_⟩
  exact ⟨_, rfl, _, rfl, a, C, rfl, hO, hW, .inl ⟨ha, fun dx n ne => q dx n ne⟩⟩
theorem ok_F (T : Tops K mg) (X : Exx K mg) : FnOk P w K mg base CX0 2 X.fF X.dF ["self", "word", "why"] (spRef K) := by
  have GR : FnOk P w K mg base CX0 1 X.fR X.dR ["self", "word", "why"] (spRef K) := ok_R T X
  refine X.FF.ok scF (fun vs H Q E h => ?_) (fun cdv A outer s H vs Q E hr h => ?_)
  · obtain ⟨a, C, wd, y, rfl, _⟩ := h
    rfl
  obtain ⟨a, C, wd, y, rfl, l1, l2, ha, hO, hW, q⟩ := h
  refine ⟨_, pss_one (ps_expr (pe_cfun GR (hr.mono (by omega)) (by rfl) X.gR X.cR X.vR X.FR.kp X.bR .nil pass0 (pa_cons (pv 0) (pa_cons (pv 1) (pa_cons (pv 2) pa_nil))))), ?_⟩
  exact ⟨_, rfl, _, rfl, _, rfl, a, C, wd, y, rfl, l1, l2, ha, hO, hW, q⟩
theorem ok_U (T : Tops K mg) (X : Exx K mg) : FnOk P w K mg base CX0 3 X.fU X.dU ["self", "name"] (spUne K) := by
  have GF : FnOk P w K mg base CX0 2 X.fF X.dF ["self", "word", "why"] (spRef K) := ok_F T X
  refine X.FU.ok scU (fun vs H Q E h => ?_) (fun cdv A outer s H vs Q E hr h => ?_)
  · obtain ⟨a, C, y, rfl, _⟩ := h
    rfl
  obtain ⟨a, C, y, rfl, l2, ha, hO, hW, hn, q⟩ := h
  refine ⟨_, pss_cons (ps_expr (pe_cfun GF (hr.mono (by omega)) (by rfl) X.gF X.cF X.vF X.FF.kp X.bF .nil pass0 (pa_cons (pv 0) (pa_cons pe_str (pa_cons (pv 1) pa_nil))))) (pss_one (ps_ost (pv 0) (pv 1))), ?_⟩
  refine ⟨_, rfl, _, rfl, a, C, "Uneven", y, rfl, by decide +kernel, l2, ha, hO, hW, fun dx n ne => ?_⟩
  refine ⟨_, rfl, _, rfl, a, C, rfl, hO, hn, .inr ⟨dx, _, upd_same, ?_, by decide, q dx n ne⟩⟩
  rw [upd_ne ne]
  exact upd_same
theorem Exx.bG (X : Exx K mg) : ∃ ds, Vals [V.int 0, V.int 2] ds ∧ Binds K X.dG ["sums", "many", "base"] ds :=
  X.FG.binds0 1 (by simp) rfl fun D doc pm an cdv ct us ks l1 l2 => by
    match us, l1, ks, l2 with
    | [_], _, [_, _], _ => exact ⟨_, _, _, _, _, _, rfl, rfl, _, _, _, _, _, _, rfl, rfl, rfl⟩
def g2 {α : Type} : List α → List α → List α
  | [s], [b, m] => [s, m, b]
  | _, _ => []
theorem Exx.bG2 (X : Exx K mg) : KBn K X.dG ["sums", "many", "base"] 1 ["base", "many"] g2 g2 := by
  obtain ⟨oc, od, dV, kV, doc, pm, an, cdv, ct, osl, e, lk, hcd, hD, hK⟩ := X.FG.ex
  rcases hD with ⟨_, rfl⟩ | ⟨z, _⟩
  · refine ⟨fun s us ws KX l1 l2 => ?_, fun {vs us zs ws} r1 r2 => ?_⟩
    · rw [e]
      match us, l1, ws, l2 with
      | [_], _, [_, _], _ => exact .of_eq rfl
    · cases r1 with
      | nil => exact .nil
      | cons a1 r1 =>
        cases r1 with
        | nil =>
          cases r2 with
          | nil => exact .nil
          | cons b1 r2 =>
            cases r2 with
            | nil => exact .nil
            | cons b2 r2 =>
              cases r2 with
              | nil => exact .cons a1 (.cons b2 (.cons b1 .nil))
              | cons _ _ => exact .nil
        | cons _ _ => exact .nil
  · exact absurd rfl z
theorem Exx.bG1 (X : Exx K mg) : ∃ u : Value, RelV (.int 2) u ∧ KBn K X.dG ["sums", "many", "base"] 1 ["many"] (fun us ws => us ++ ws ++ [u]) (fun vs zs => vs ++ zs ++ [.int 2]) := by
  obtain ⟨oc, od, dV, kV, doc, pm, an, cdv, ct, osl, e, lk, hcd, hD, hK⟩ := X.FG.ex
  rcases hD with ⟨_, rfl⟩ | ⟨z, _⟩
  · rcases hK with z | ⟨D, rfl, hq⟩
    · cases z
    · obtain ⟨u, hu, ru⟩ := hq ("base", .int 2) (List.mem_cons_of_mem _ List.mem_cons_self)
      refine ⟨u, ru, ⟨fun s us ws KX l1 l2 => ?_, fun r1 r2 => (r1.append r2).append (.cons ru .nil)⟩⟩
      rw [e]
      refine BindsTo.of_looks fun M => KwChain.looks (l := [("base", u)]) KX (fun q hq => by rw [List.mem_singleton.mp hq]; exact hu) ?_
      match us, l1, ws, l2 with
      | [_], _, [_], _ => exact ⟨_, _, _, _, _, _, rfl, rfl, rfl⟩
  · exact absurd rfl z
end
end K14

set_option Elab.async false
set_option linter.all false
set_option maxRecDepth 100000
set_option maxHeartbeats 4000000
namespace K14
open PySem PySem.Spec PyProof.Rows L2 OG
open C8 (pss_cut pe_gc)
open OGX

section
variable {P : Program} {w : World} {K : PySem.W.Frag} {mg : Str → Option Value} {base : Heap}
theorem ok_told (T : Tops K mg) : FnOk P w K mg base CX0 1 T.ftold_growth T.dtold_growth ["times", "base", "figures"] spTold := by
  refine T.Ftold_growth.ok (k := 0) sctold_growth (fun vs H Q E h => ?_) (fun cdv A outer s H vs Q E hr h => ?_)
  · obtain ⟨m, b, f, rfl, _⟩ := h
    rfl
  obtain ⟨m, b, f, rfl, m1, m9, hb, q⟩ := h
  refine ⟨_, (pss_cons (ps_set (i := 3) sctold_growth.nd rfl (Or.inl rfl) pe_int)
 (pss_cons (ps_set (i := 4) sctold_growth.nd rfl (Or.inl rfl) (pv 0))
 (pss_cons (ps_while PassesOwn.never (PW.pt (pw_and (pt_cmpR op_eq (pv 1) pe_int (nomark _)) (pw_and1 (pt_cmpR op_eq (pe_op op_mod (pv 4) pe_int) pe_int (nomark _)))))
  (pss_cons (ps_aug (i := 4) sctold_growth.nd rfl (Or.inl rfl) pe_int ip_fdiv)
 (pss_one (ps_aug (i := 3) sctold_growth.nd rfl (Or.inl rfl) pe_int ip_mul))))
 (pss_one (ps_ret (pe_ifExp (PW.pt (pw_and (pt_cmpR op_eq (pv 1) pe_int (nomark _)) (pw_and1 (pt_cmpR op_eq (pv 4) pe_int (nomark _))))) (pe_tup (pa_cons (pv 3) (pa_cons pe_int (pa_cons (pv 2) pa_nil)))) (pe_tup (pa_cons (pv 0) (pa_cons (pv 1) (pa_cons (pv 2) pa_nil)))))))))), ?_⟩
  refine ⟨_, rfl, ?_⟩
  refine ⟨fun n σ H' => H' = H ∧ ∃ (hv r : Int), σ = [some (.int m), some (.int b), some (.int f), some (.int hv), some (.int r)] ∧ 1 ≤ r ∧ r = n ∧ ((hv = 1 ∧ r = m) ∨ (b = 3 ∧ hv = 2 ∧ m = 3 * r) ∨ (b = 3 ∧ hv = 4 ∧ m = 9 * r)), ⟨m.toNat, rfl, 1, m, rfl, m1, by omega, .inl ⟨rfl, rfl⟩⟩, ?_⟩
  rintro n σ H' ⟨rfl, hv, r, rfl, r1, rn, hr2⟩
  refine ⟨_, rfl, rfl, _, rfl, ite2 (fun c => ?_) (fun c => ?_)⟩
  · have e3 : b = 3 := V.int.inj (of_decide_eq_true c)
    refine ⟨_, rfl, _, 3, rfl, rfl, (show (0 : Int) < 3 by decide), rfl, _, rfl, ite2 (fun c2 => ?_) (fun c2 => ?_)⟩
    · have e4 : r % 3 = 0 := V.int.inj (of_decide_eq_true c2)
      refine ⟨fun σ' H2 => H2 = H' ∧ σ' = [some (.int m), some (.int b), some (.int f), some (.int (hv * 2)), some (.int (r / 3))], ?_, ?_⟩
      · rintro σ2 H2 ⟨rfl, rfl⟩
        refine ⟨(r / 3).toNat, by omega, rfl, hv * 2, r / 3, rfl, by omega, by omega, ?_⟩
        rcases hr2 with ⟨a1, a2⟩ | ⟨a1, a2, a3⟩ | ⟨a1, a2, a3⟩
        · exact .inr (.inl ⟨e3, by omega, by omega⟩)
        · exact .inr (.inr ⟨e3, by omega, by omega⟩)
        · omega
      · refine ⟨_, rfl, _, _, rfl, rfl, ⟨by decide, by decide⟩, ?_⟩
        exact ⟨_, rfl, _, _, rfl, rfl, .inr ⟨by decide, by decide⟩, rfl, rfl⟩
    · have e4 : ¬ r % 3 = 0 := fun z => c2 (decide_eq_true (congrArg V.int z))
      refine ⟨_, rfl, rfl, _, rfl, ite2 (fun _ => ?_) (fun z => absurd c z)⟩
      refine ⟨_, rfl, rfl, _, rfl, ite2 (fun c3 => ?_) (fun c3 => ?_)⟩
      · have e5 : r = 1 := V.int.inj (of_decide_eq_true c3)
        have et : tld m b = (hv, 2) := by
          unfold tld
          rw [if_pos e3]
          rcases hr2 with ⟨a1, a2⟩ | ⟨a1, a2, a3⟩ | ⟨a1, a2, a3⟩
          · rw [if_pos (by omega), a1]
          · rw [if_neg (by omega), if_pos (by omega), a2]
          · rw [if_neg (by omega), if_neg (by omega), if_pos (by omega), a2]
        refine ⟨_, rfl, _, rfl, (by show 3 ≤ sizeLine; decide), fun t nt => ?_⟩
        refine q _ _ (same_new nt) ?_
        rw [et]
        exact rp_tup upd_same (rpl_cons rfl (rpl_cons rfl (rpl_cons rfl rpl_nil)))
      · have e5 : ¬ r = 1 := fun z => c3 (decide_eq_true (by rw [z]))
        have et : tld m b = (m, b) := by
          unfold tld
          rw [if_pos e3, if_neg (by omega), if_neg (by omega), if_neg (by omega), e3]
        refine ⟨_, rfl, _, rfl, _, rfl, (by show 3 ≤ sizeLine; decide), fun t nt => ?_⟩
        refine q _ _ (same_new nt) ?_
        rw [et]
        exact rp_tup upd_same (rpl_cons rfl (rpl_cons rfl (rpl_cons rfl rpl_nil)))
  · have e3 : ¬ b = 3 := fun z => c (decide_eq_true (by rw [z]))
    have et : tld m b = (m, b) := by
      unfold tld
      rw [if_neg e3]
    refine ⟨_, rfl, rfl, _, rfl, ite2 (fun z => absurd z c) (fun _ => ?_)⟩
    refine ⟨_, rfl, _, rfl, _, rfl, (by show 3 ≤ sizeLine; decide), fun t nt => ?_⟩
    refine q _ _ (same_new nt) ?_
    rw [et]
    exact rp_tup upd_same (rpl_cons rfl (rpl_cons rfl (rpl_cons rfl rpl_nil)))
theorem gsum_last {rs : List OG.Row} (h : rs ≠ []) : ∃ r, rs.getLast? = some r := by
  cases e : rs.getLast? with
  | none => exact absurd (List.getLast?_eq_none_iff.mp e) h
  | some r => exact ⟨r, rfl⟩
theorem ok_faint (T : Tops K mg) (X : Exx K mg) : FnOk P w K mg base (L2.CX P w) 6 T.ffaint_growth T.dfaint_growth ["sums", "many", "base"] (spFaint X.CU) := by
  have Gworth : FnOk P w K mg base CX0 4 T.fworth T.dworth ["sums", "size"] (spWorth K) := ok_worth T
  have Gtold_growth : FnOk P w K mg base CX0 1 T.ftold_growth T.dtold_growth ["times", "base", "figures"] spTold := ok_told T
  have GU : FnOk P w K mg base CX0 3 X.fU X.dU ["self", "name"] (spUne K) := ok_U T X
  refine T.Ffaint_growth.okX (k := 5) scfaint_growth (fun vs H Q E h => ?_) (fun cdv A outer s H vs Q E hr h => ?_)
  · obtain ⟨S, rs, ls, m, b, rfl, _⟩ := h
    rfl
  obtain ⟨S, rs, ls, m, b, rfl, hS, hg, hlast, m0, m9, hb, q, e⟩ := h
  refine ⟨_, (pss_cons (ps_if (PW.pt (pw_or (pt_cmpR op_eq (pv 1) pe_int (nomark _)) (pw_or1 (pt_not (pt_val (pe_callB (cr_anyP rfl) (by rfl) T.many (by decide +kernel) (pa_cons (pe_lc (own := [("since", 3), ("terms", 4)]) rfl scfaint_growth.nd (pi_list (pv 0)) (blkOk_by (N := Nfaint_growth) (sc := defScope sfaint_growth) (by decide +kernel)) (fun _ _ _ _ _ => (pg_tupK (K := K) (n := 2) rfl rfl (pgs_cons (pg_name (i := 3) scfaint_growth.nd rfl (Or.inl rfl)) (pgs_cons (pg_name (i := 4) scfaint_growth.nd rfl (Or.inl rfl)) pgs_nil)))) (fun _ _ _ _ _ => pts_nil) (fun _ _ _ _ _ => (pv 4))) pa_nil)))))))
  (pss_one (ps_ret pe_non))
  pss_nil)
 (pss_cons (ps_if (pt_cmpR (op_eqD hr.units) (pe_call Gworth (hr.mono (by omega)) (by rfl) T.gworth T.Fworth.kp T.bworth .nil pass0 (pa_cons (pv 0) (pa_cons pe_int pa_nil))) (pe_gc (by rfl) T.cNOUGHT) (nomark _))
  (pss_one (ps_raise rfl (takes_of rfl rfl rfl rfl) (pmk_oex X.oU X.iU X.tU GU (hr.mono (by omega)) X.bU .nil pass0 (by rfl) X.gU (pa_cons pe_str pa_nil))))
  pss_nil)
 (pss_one (ps_ret (pe_call Gtold_growth (hr.mono (by omega)) (by rfl) T.gtold_growth T.Ftold_growth.kp T.btold_growth .nil pass0 (pa_cons (pv 1) (pa_cons (pv 2) (pa_cons pe_int pa_nil)))))))), ?_⟩
  have told : ∀ H2, Same H H2 → ¬ m = 0 → grow rs m b = .gr (tld m b).1 (tld m b).2 0 → ∃ m' b' f' : Int, [V.int m, V.int b, V.int 0] = [.int m', .int b', .int f'] ∧ 1 ≤ m' ∧ m' ≤ 9 ∧ (b' = 2 ∨ b' = 3) ∧ ∀ v H', Same H2 H' → Rp H' v (encRes (.gr (tld m' b').1 (tld m' b').2 f')) → Q v H' := fun H2 s2 hm hgr => 
    ⟨m, b, 0, rfl, by omega, m9, hb, fun v H' s' hv => q (by rw [hgr]; exact fun z => by cases z) v H' (s2.trans s') (by rw [hgr]; exact hv)⟩
  refine ⟨_, rfl, rfl, _, rfl, ite2 (fun c => ?_) (fun c => ?_)⟩
  · have e0 : m = 0 := V.int.inj (of_decide_eq_true c)
    have hgr : grow rs m b = .no := by
      unfold grow
      rw [hlast]
      exact if_pos (.inl e0)
    exact q (by rw [hgr]; exact fun z => by cases z) _ _ (Same.refl H) (by rw [hgr]; rfl)
  have e0 : ¬ m = 0 := fun z => c (decide_eq_true (by rw [z]))
  obtain ⟨us, hSl, hRs⟩ := id hS
  have lus := hRs.len
  have lrs := hg.ok.short
  refine ⟨_, rfl, S, rfl, ⟨_, SqL.of hSl⟩, fun D nD => ?_⟩
  refine lc_list_map2 (K := K) (ls.map V.ref) (by rw [List.length_map, lus.2, lus.1]) (by omega) hSl nD (fun i x y H2 Nx hx hy s2 k2 => ?_) (fun H2 s2 hD2 => ?_)
  · obtain ⟨r, l, hr3, hl3, hR3⟩ := (hRs.same s2).get hx
    obtain ⟨b', rfl, hb', _⟩ := hR3
    have ey : y = .ref l := by
      rw [List.getElem?_map, hl3] at hy
      exact (Option.some.inj hy).symm
    subst ey
    exact ⟨b', _, rfl, SqT.of hb', rfl, _, _, rfl, _, _, rfl, rfl, rfl, _, rfl, k2 H2 (Same.refl H2)⟩
  refine ⟨D, _, _, rfl, SqL.of hD2, dp_lists (hRs.same s2), plain_lists rs, fun x hx => ?_, ?_⟩
  · obtain ⟨r, hr3, rfl⟩ := List.mem_map.mp hx
    show ((r.2.map pyT).length : Int) < 2 ^ 63
    have := (hg.ok.terms r hr3).1
    rw [List.length_map]
    omega
  rw [any_lists]
  refine ⟨_, rfl, ite2 (fun c1 => ?_) (fun c1 => ?_)⟩
  · have ea : (rs.all fun r => r.2.isEmpty) = true := by rw [Bool.not_not] at c1; exact c1
    have hgr : grow rs m b = .no := by
      unfold grow
      rw [hlast]
      exact if_pos (.inr ea)
    exact q (by rw [hgr]; exact fun z => by cases z) _ _ s2 (by rw [hgr]; rfl)
  have ea : ¬ (rs.all fun r => r.2.isEmpty) = true := by rw [Bool.not_not] at c1; exact c1
  have hgr : grow rs m b = if worthOf rs 0 = (0, 1) then .un else .gr (tld m b).1 (tld m b).2 0 := by
    unfold grow
    rw [hlast]
    exact if_neg (fun z => z.elim e0 ea)
  refine ⟨_, rfl, S, rs, ls, 0, rfl, hS.same s2, hg.ok, by decide, by decide, fun v H3 s3 hP => ?_⟩
  refine ⟨_, _, dp_part hP, .tup (T.tNOUGHT _) (.cons (.int _) (.cons (.int _) .nil)), shaped_pair _ _, shaped_pair _ _, ?_⟩
  rw [eqv_pair]
  refine ⟨_, rfl, ite2 (fun c2 => ?_) (fun c2 => ?_)⟩
  · have ew : worthOf rs 0 = (0, 1) := of_decide_eq_true c2
    rw [if_pos ew] at hgr
    refine ⟨by show 1 ≤ 1000; decide, fun a na => ⟨a, X.CU, "", rfl, by decide +kernel, upd_same, X.oU, X.wU, X.nU, fun dx n ne => ?_⟩⟩
    have n3 : H3 dx = none := by rw [upd_ne ne] at n; exact n
    have s23 := s2.trans s3
    refine ⟨rfl, dx, uneF, by rw [upd_ne (Ne.symm ne)]; exact upd_same, upd_same, n3, e hgr dx _ (fun x o hx => ?_) (s23.free n3) upd_same⟩
    have h3 := s23 _ _ hx
    have na2 := ne_of_none h3 na
    have nd2 := ne_of_none h3 n3
    rw [upd_ne nd2, del_ne na2, upd_ne nd2, upd_ne na2, upd_ne nd2, upd_ne na2]
    exact h3
  · have ew : ¬ worthOf rs 0 = (0, 1) := fun z => c2 (decide_eq_true z)
    rw [if_neg ew] at hgr
    exact ⟨_, rfl, _, rfl, told H3 (s2.trans s3) e0 hgr⟩
theorem ok_growth (T : Tops K mg) (X : Exx K mg) : FnOk P w K mg base (L2.CX P w) 7 X.fG X.dG ["sums", "many", "base"] (spGrowth X.CU) := by
  have Gfaint_growth : FnOk P w K mg base (L2.CX P w) 6 T.ffaint_growth T.dfaint_growth ["sums", "many", "base"] (spFaint X.CU) := ok_faint T X
  have Gtold_growth : FnOk P w K mg base CX0 1 T.ftold_growth T.dtold_growth ["times", "base", "figures"] spTold := ok_told T
  have Gpower : FnOk P w K mg base CX0 1 T.fpower T.dpower ["base", "exponent"] spPowW := ok_powerW T
  refine X.FG.ok (k := 6) scgrowth (fun vs H Q E h => ?_) (fun cdv A outer s H vs Q E hr h => ?_)
  · obtain ⟨S, rs, ls, m, b, rfl, _⟩ := h
    rfl
  obtain ⟨S, rs, ls, m, b, rfl, hS, hg, m0, m9, hb, q, e⟩ := h
  refine ⟨_, (pss_cons (ps_set (i := 3) scgrowth.nd rfl (Or.inl rfl) (pe_ix ix_tup (pe_ix ix_list (pv 0) (pe_un un_neg pe_int) (fun _ _ => rfl)) pe_int (fun _ _ => rfl)))
 (pss_cons (ps_if (pt_not (pt_truth (pv 3) (by intro _; rfl)))
  (pss_one (ps_ret (pe_call Gfaint_growth (hr.mono (by omega)) (by rfl) T.gfaint_growth T.Ffaint_growth.kp T.bfaint_growth .nil (passes_call (takes_of rfl rfl rfl rfl) (fun _ _ _ _ h => h)) (pa_cons (pv 0) (pa_cons (pv 1) (pa_cons (pv 2) pa_nil))))))
  pss_nil)
 (pss_cons (ps_asg (pe_ix ix_tup (pe_ix ix_list (pv 3) pe_int (fun _ _ => rfl)) pe_int (fun _ _ => rfl)) (pg_tup rfl (pgs_cons (pg_name (i := 6) scgrowth.nd rfl (Or.inl rfl)) (pgs_cons (pg_name (i := 7) scgrowth.nd rfl (Or.inl rfl)) pgs_nil))))
 (pss_cons (ps_set (i := 4) scgrowth.nd rfl (Or.inl rfl) (pe_tup (pa_cons (pe_op op_oneShl pe_int (pv 6)) (pa_cons pe_int (pa_cons (pv 7) pa_nil)))))
 (pss_cons (ps_if (pt_cmpR op_eq (pv 1) pe_int (nomark _))
  (pss_one (ps_ret (pv 4)))
  pss_nil)
 (pss_cons (ps_set (i := 5) scgrowth.nd rfl (Or.inl rfl) (pe_call Gpower (hr.mono (by omega)) (by rfl) T.gpower T.Fpower.kp T.bpower .nil pass0 (pa_cons (pv 2) (pa_cons (pv 6) pa_nil))))
 (pss_cons (ps_if (pt_cmpR op_lt (pv 1) (pv 5) (nomark _))
  (pss_one (ps_ret (pv 4)))
  pss_nil)
 (pss_one (ps_ret (pe_call Gtold_growth (hr.mono (by omega)) (by rfl) T.gtold_growth T.Ftold_growth.kp T.btold_growth .nil pass0 (pa_cons (pv 1) (pa_cons (pv 2) (pa_cons (pe_ifExp (pt_cmpR op_gt (pv 1) (pv 5) (nomark _)) pe_int (pe_op op_add (pv 7) pe_int)) pa_nil))))))))))))), ?_⟩
  obtain ⟨us, hSl, hRs⟩ := id hS
  obtain ⟨us0, bl, l, r, vs, rfl, hrm, hlast, hbl, hl, hv, _⟩ := last_row hRs hg.n0
  refine ⟨_, rfl, 1, rfl, S, _, -1, _, rfl, rfl, SqL.of hSl, atI_last us0 (.ref bl), bl, _, 1, _, rfl, rfl, SqT.of hbl, rfl, ?_⟩
  have lv := hv.length
  rw [List.length_map] at lv
  refine ⟨_, rfl, !decide (vs.length = 0), tru_lst hl, ite2 (fun c => ?_) (fun c => ?_)⟩
  · have e0 : r.2 = [] := by
      have : vs.length = 0 := by simpa using c
      exact List.eq_nil_of_length_eq_zero (by omega)
    exact ⟨_, rfl, _, rfl, _, rfl, S, rs, ls, m, b, rfl, hS, hg, by rw [hlast, e0], m0, m9, hb, q, e⟩
  have e0 : ∃ t ts, r.2 = t :: ts := by
    cases h : r.2 with
    | nil => exact absurd (by have : vs.length = 0 := by rw [lv, h]; rfl
                              rw [this]; rfl) c
    | cons t ts => exact ⟨t, ts, rfl⟩
  obtain ⟨t, ts, et⟩ := e0
  have hT := (hg.ok.terms r hrm).2 t (by rw [et]; exact List.mem_cons_self)
  rw [et] at hv hlast
  obtain ⟨v, vr, rfl, hv0, _⟩ := hv
  obtain ⟨a, v1, v2, rfl, ha, h1, h2⟩ := rp_t2 hv0
  obtain ⟨a1, w1, w2, rfl, ha1, rfl, rfl⟩ := rp_t2 h1
  obtain ⟨k, hk⟩ : ∃ k : Nat, t.1.1 = k := ⟨t.1.1.toNat, by omega⟩
  have hkn : t.1.1.toNat = k := by omega
  refine ⟨_, rfl, l, _, 0, _, rfl, rfl, SqL.of hl, atI_head _ _, a, _, 0, _, rfl, rfl, SqT.of ha, rfl, a1, _, rfl, SqT.of ha1, rfl, _, _, rfl, _, _, rfl, rfl, ?_⟩
  refine ⟨_, rfl, k, rfl, congrArg V.int hk, by omega, _, rfl, (by show 3 ≤ sizeLine; decide), fun o no => ?_⟩
  have so : Same H (upd H o (.tup [.int (2 ^ k), .int 2, .int t.1.2])) := same_new no
  have own : grow rs m b = .gr (2 ^ k) 2 t.1.2 → Q (.ref o) (upd H o (.tup [.int (2 ^ k), .int 2, .int t.1.2])) := fun hgr => q (by rw [hgr]; exact fun z => by cases z) _ _ so (by
    rw [hgr]
    exact rp_tup upd_same (rpl_cons rfl (rpl_cons rfl (rpl_cons rfl rpl_nil))))
  have hgr : grow rs m b = if m = 0 ∨ m < b ^ k then .gr (2 ^ k) 2 t.1.2 else .gr (tld m b).1 (tld m b).2 (if m > b ^ k then 0 else t.1.2 + 1) := by
    unfold grow
    rw [hlast]
    show (if m = 0 ∨ m < b ^ t.1.1.toNat then Res.gr (2 ^ t.1.1.toNat) 2 t.1.2 else _) = _
    rw [hkn]
  refine ⟨_, rfl, rfl, _, rfl, ite2 (fun c1 => ?_) (fun c1 => ?_)⟩
  · have e1 : m = 0 := V.int.inj (of_decide_eq_true c1)
    rw [if_pos (.inl e1)] at hgr
    exact ⟨_, rfl, own hgr⟩
  have e1 : ¬ m = 0 := fun z => c1 (decide_eq_true (by rw [z]))
  refine ⟨_, rfl, _, rfl, b, k, by rw [hk]; rfl, by omega, by omega, ?_⟩
  refine ⟨_, rfl, _, rfl, m, b ^ k, rfl, rfl, _, rfl, ite2 (fun c2 => ?_) (fun c2 => ?_)⟩
  · have e2 : m < b ^ k := of_decide_eq_true c2
    rw [if_pos (.inr e2)] at hgr
    exact ⟨_, rfl, own hgr⟩
  have e2 : ¬ m < b ^ k := fun z => c2 (decide_eq_true z)
  rw [if_neg (fun z => z.elim e1 e2)] at hgr
  have fin : ∀ f : Int, (if m > b ^ k then 0 else t.1.2 + 1) = f → spTold [.int m, .int b, .int f] (upd H o (.tup [.int (2 ^ k), .int 2, .int t.1.2])) Q E0 := fun f hf =>
    ⟨m, b, f, rfl, by omega, m9, hb, fun v H' s' hv => q (by rw [hgr]; exact fun z => by cases z) v H' (so.trans s') (by rw [hgr, hf]; exact hv)⟩
  refine ⟨_, rfl, _, rfl, _, rfl, _, rfl, m, b ^ k, rfl, rfl, _, rfl, ite2 (fun c3 => ?_) (fun c3 => ?_)⟩
  · have e3 : b ^ k < m := of_decide_eq_true c3
    exact fin 0 (if_pos e3)
  · have e3 : ¬ b ^ k < m := fun z => c3 (decide_eq_true z)
    exact ⟨_, rfl, _, _, rfl, rfl, fin (t.1.2 + 1) (if_neg e3)⟩
end
end K14

set_option Elab.async false
set_option linter.all false
set_option maxRecDepth 100000
set_option maxHeartbeats 4000000
namespace K14
open PySem PySem.Spec PyProof.Rows L2 OG
open C8 (pss_cut pe_gc)
open OGX

section
variable {P : Program} {w : World} {K : PySem.W.Frag} {mg : Str → Option Value} {base : Heap}
theorem ok_plus (T : Tops K mg) : FnOk P w K mg base CX0 5 T.fl_plus_sums T.dl_plus_sums ["_law_draw", "_law_top", "_law_deep", "_law_wide"] spPlus := by
  have Gl_drawn_sums : FnOk P w K mg base CX0 4 T.fl_drawn_sums T.dl_drawn_sums ["_law_draw", "_law_top", "_law_deep", "_law_wide"] spSums := ok_l_drawn_sums T
  refine T.Fl_plus_sums.ok (k := 4) scl_plus_sums (fun vs H Q E h => ?_) (fun cdv A outer s H vs Q E hr h => ?_)
  · obtain ⟨d, L, top, deep, wide, rfl, _⟩ := h
    rfl
  obtain ⟨d, L, top, deep, wide, rfl, hD, t0, t9, d0, d9, w1, w2, q⟩ := h
  refine ⟨_, (pss_cons (ps_set (i := 4) scl_plus_sums.nd rfl (Or.inl rfl) (pe_call Gl_drawn_sums (hr.mono (by omega)) (by rfl) T.gl_drawn_sums T.Fl_drawn_sums.kp T.bl_drawn_sums .nil pass0 (pa_cons (pv 0) (pa_cons (pv 1) (pa_cons (pv 2) (pa_cons (pv 3) pa_nil))))))
 (pss_one (ps_ret (pe_lc (own := [("_law_since", 5), ("_law_terms_here", 6)]) rfl scl_plus_sums.nd (pi_list (pv 4)) (blkOk_by (N := Nl_plus_sums) (sc := defScope sl_plus_sums) (by decide +kernel)) (fun _ _ _ _ _ => (pg_tupK (K := K) (n := 2) rfl rfl (pgs_cons (pg_name (i := 5) scl_plus_sums.nd rfl (Or.inl rfl)) (pgs_cons (pg_name (i := 6) scl_plus_sums.nd rfl (Or.inl rfl)) pgs_nil)))) (fun _ _ _ _ _ => pts_nil) (fun _ _ _ _ _ => (pe_tup (pa_cons (pv 5) (pa_cons (pe_lc (own := [("_law_key", 7), ("_law_part", 8)]) rfl scl_plus_sums.nd (pi_listK (K := K) rfl (pv 6)) (blkOk_by (N := Nl_plus_sums) (sc := { kind := .function, names := [(".0", .local), ("_law_since", .local), ("_law_terms_here", .local)], isGenerator := false, isCoroutine := false }) (by decide +kernel)) (fun _ _ _ _ _ => (pg_tupK (K := K) (n := 2) rfl rfl (pgs_cons (pg_name (i := 7) scl_plus_sums.nd rfl (Or.inl rfl)) (pgs_cons (pg_name (i := 8) scl_plus_sums.nd rfl (Or.inl rfl)) pgs_nil)))) (fun _ _ _ _ _ => pts_nil) (fun _ _ _ _ _ => (pe_tup (pa_cons (pv 7) (pa_cons (pe_tup (pa_cons (pe_callB call_abs (by rfl) T.mabs (by decide +kernel) (pa_cons (pe_ix (ix_tupK (K := K) rfl) (pv 8) pe_int (fun _ _ => rfl)) pa_nil)) (pa_cons (pe_ix (ix_tupK (K := K) rfl) (pv 8) pe_int (fun _ _ => rfl)) pa_nil))) pa_nil))))) pa_nil)))))))), ?_⟩
  refine ⟨_, rfl, _, rfl, _, rfl, _, rfl, d, L, top, deep, wide, rfl, hD, t0, t9, d0, d9, w1, w2, fun S rs ls H1 nS nSd hls hSm hok hD1 G1 => ?_⟩
  obtain ⟨us, hSl, hRs⟩ := id hSm
  have lus := hRs.len
  have n4 := hok.n4
  refine ⟨_, rfl, S, rfl, ⟨_, SqL.of hSl⟩, fun D nD => ?_⟩
  have hdd := hD1.some
  refine lc_grow (K := K) (fun j v H2 => ∃ r l, rs[j]? = some r ∧ RowAt H2 v (absR r) l ∧ (l ≠ D ∧ l ≠ d)) (fun i v Ha Hb la hla hh k => ?_) (by omega) hSl nD (fun i x H2 Nx hx s2 hD2 k2 => ?_) (fun H2 ys s2 hD2 hlen hys => ?_)
  · obtain ⟨r, l, h1, ⟨a, rfl, ha, us', hu, hr'⟩, n1, n2⟩ := hh
    have im := imm_but hla k
    exact ⟨r, l, h1, ⟨a, rfl, im _ _ ha, us', k l _ n1 hu, hr'.to im⟩, n1, n2⟩
  · obtain ⟨r, l0, hr0, _, b, rfl, hb, us0, hl0, hv0⟩ := (hRs.same s2).get hx
    obtain ⟨accD, hD2⟩ := hD2
    have lv := hv0.length
    rw [List.length_map] at lv
    have h3 := (hok.terms r (List.mem_of_getElem? hr0)).2.1
    refine ⟨b, _, rfl, SqT.of hb, rfl, _, _, rfl, _, _, rfl, rfl, rfl, ?_⟩
    refine ⟨_, rfl, _, rfl, l0, rfl, ⟨_, SqL.of hl0⟩, fun D' nD' => ?_⟩
    refine lc_grow (K := K) (fun j v H3 => ∃ t, r.2[j]? = some t ∧ Rp H3 v (encT (absT t))) (fun i v Ha Hb la hla hh k => ?_) (by omega) hl0 nD' (fun j x H3 Nx3 hx3 s3 hD3 k3 => ?_) (fun H3 ys s3 hD3 hlen hys => ?_)
    · obtain ⟨t, h1, h2⟩ := hh
      exact ⟨t, h1, h2.to (imm_but hla k)⟩
    · obtain ⟨t, ht, hRt⟩ := rpl_terms (hv0.to (Imm.same s3)) hx3
      obtain ⟨a, v1, v2, rfl, ha, h1, h2⟩ := rp_t2 hRt
      obtain ⟨a2, w1, w2, rfl, ha2, rfl, rfl⟩ := rp_t2 h2
      refine ⟨a, _, rfl, SqT.of ha, rfl, _, _, rfl, _, _, rfl, rfl, rfl, ?_⟩
      refine ⟨_, rfl, _, rfl, a2, _, 0, _, rfl, rfl, SqT.of ha2, rfl, t.2.1, rfl, _, rfl, a2, _, 1, _, rfl, rfl, SqT.of ha2, rfl, (by show 2 ≤ sizeLine; decide), fun p np => ⟨(by show 2 ≤ sizeLine; decide), fun p2 np2 => ?_⟩⟩
      have ea : (if t.2.1 < 0 then -t.2.1 else t.2.1) = ((t.2.1.natAbs : Nat) : Int) := by split <;> omega
      rw [ea] at np2 ⊢
      have s4 := (same_new (o := .tup [.int ((t.2.1.natAbs : Nat) : Int), .int t.2.2]) np).trans (same_new (o := .tup [v1, .ref p]) np2)
      exact k3 _ _ s4 ⟨t, ht, rp_tup upd_same (rpl_cons (h1.to (Imm.same s4)) (rpl_cons (rp_tup (same_new np2 _ _ upd_same) (rpl_cons rfl (rpl_cons rfl rpl_nil))) rpl_nil))⟩
    · have nDD : D' ≠ D := fun z => by
        rw [z, hD2] at nD'
        cases nD'
      have nDd : D' ≠ d := fun z => by
        obtain ⟨o, ho⟩ := hdd
        have := s2 _ _ ho
        rw [← z, nD'] at this
        cases this
      have hR3 : RpL H3 ys ((r.2.map absT).map encT) := by
        rw [List.map_map]
        exact rpl_at (by rw [hlen, lv]) hys
      exact ⟨(by show 2 ≤ sizeLine; decide), fun p np => k2 _ _ (s3.trans (same_new np)) ⟨r, D', hr0, ⟨p, rfl, upd_same, ys, same_new np _ _ hD3, hR3.to (Imm.same (same_new np))⟩, nDD, nDd⟩⟩
  · obtain ⟨ls', hrows, hn⟩ := rows_at (C := fun l => l ≠ D ∧ l ≠ d) (f := absR) (ys := ys) (rs := rs) (by rw [hlen, lus.1]) hys
    have nDd : D ≠ d := fun z => by
      obtain ⟨o, ho⟩ := hdd
      rw [← z, nD] at ho
      cases ho
    exact q D (rs.map absR) ls' H2 nDd (fun l hl => (hn l hl).2) ⟨ys, hD2, hrows⟩ (gsum_abs hok t9 d9 w2) (hD1.same s2) (G1.trans (Go.same s2))
end
end K14

set_option Elab.async false
set_option linter.all false
set_option maxRecDepth 100000
set_option maxHeartbeats 4000000
namespace K14
open PySem PySem.Spec PyProof.Rows L2 OG
open C8 (pss_cut pe_gc)
open OGX

section
variable {P : Program} {w : World} {K : PySem.W.Frag} {mg : Str → Option Value} {base : Heap}
theorem ok_due (T : Tops K mg) : FnOk P w K mg base CX0 4 T.fl_due_growth T.dl_due_growth ["_law_sums", "_law_often", "_law_by_it"] spDue := by
  have Gl_sums_at : FnOk P w K mg base CX0 3 T.fl_sums_at T.dl_sums_at ["_law_sums", "_law_size"] spLawAt := ok_l_sums_at T
  have Gl_raised : FnOk P w K mg base CX0 1 T.fl_raised T.dl_raised ["_law_part", "_law_upto"] spPowW := ok_l_raisedW T
  refine T.Fl_due_growth.ok (k := 3) scl_due_growth (fun vs H Q E h => ?_) (fun cdv A outer s H vs Q E hr h => ?_)
  · obtain ⟨S, rs, ls, m, b, rfl, _⟩ := h
    rfl
  obtain ⟨S, rs, ls, m, b, rfl, hS, hg, m0, m9, hb, q⟩ := h
  refine ⟨_, (pss_cons (ps_set (i := 3) scl_due_growth.nd rfl (Or.inl rfl) (pe_ix ix_tup (pe_ix ix_list (pv 0) (pe_un un_neg pe_int) (fun _ _ => rfl)) pe_int (fun _ _ => rfl)))
 (pss_cut (ps_set (i := 4) scl_due_growth.nd rfl (Or.inl rfl) (pe_ifExp (pt_cmpR (op_neD hr.units) (pv 3) (pe_lst pa_nil) (nomark _)) (pe_callB (cr_max0 rfl hr.units) (by rfl) T.mmax (by decide +kernel) (pa_cons (pe_lc (own := [("_law_key", 7), ("_law_part", 8)]) rfl scl_due_growth.nd (pi_list (pv 3)) (blkOk_by (N := Nl_due_growth) (sc := defScope sl_due_growth) (by decide +kernel)) (fun _ _ _ _ _ => (pg_tupK (K := K) (n := 2) rfl rfl (pgs_cons (pg_name (i := 7) scl_due_growth.nd rfl (Or.inl rfl)) (pgs_cons (pg_name (i := 8) scl_due_growth.nd rfl (Or.inl rfl)) pgs_nil)))) (fun _ _ _ _ _ => pts_nil) (fun _ _ _ _ _ => (pv 7))) pa_nil)) (pe_tup (pa_cons pe_int (pa_cons pe_int pa_nil)))))
 (pss_cons (ps_if (pt_cmpR op_eq (pv 1) pe_int (nomark _))
  (pss_one (ps_ret (pe_ifExp (pt_cmpR (op_eqD hr.units) (pv 3) (pe_lst pa_nil) (nomark _)) pe_non (pe_tup (pa_cons (pe_call Gl_raised (hr.mono (by omega)) (by rfl) T.gl_raised T.Fl_raised.kp T.bl_raised .nil pass0 (pa_cons pe_int (pa_cons (pe_ix ix_tup (pv 4) pe_int (fun _ _ => rfl)) pa_nil))) (pa_cons pe_int (pa_cons (pe_ix ix_tup (pv 4) pe_int (fun _ _ => rfl)) pa_nil)))))))
  pss_nil)
 (pss_cut (ps_if (pt_cmpR (op_eqD hr.units) (pv 3) (pe_lst pa_nil) (nomark _))
  (pss_cons (ps_if (pt_val (pe_callB (cr_all rfl) (by rfl) T.mall (by decide +kernel) (pa_cons (pe_lc (own := [("_law_since", 9), ("_law_some", 10)]) rfl scl_due_growth.nd (pi_list (pv 0)) (blkOk_by (N := Nl_due_growth) (sc := defScope sl_due_growth) (by decide +kernel)) (fun _ _ _ _ _ => (pg_tupK (K := K) (n := 2) rfl rfl (pgs_cons (pg_name (i := 9) scl_due_growth.nd rfl (Or.inl rfl)) (pgs_cons (pg_name (i := 10) scl_due_growth.nd rfl (Or.inl rfl)) pgs_nil)))) (fun _ _ _ _ _ => pts_nil) (fun _ _ _ _ _ => (pe_cmpR (op_eqDK (K := K) rfl hr.units) (pv 10) (pe_lst pa_nil) (nomark _)))) pa_nil)))
  (pss_one (ps_ret pe_non))
  pss_nil)
 (pss_one (ps_if (pt_cmpR (op_eqD hr.units) (pe_call Gl_sums_at (hr.mono (by omega)) (by rfl) T.gl_sums_at T.Fl_sums_at.kp T.bl_sums_at .nil pass0 (pa_cons (pv 0) (pa_cons pe_int pa_nil))) (pe_tup (pa_cons pe_int (pa_cons pe_int pa_nil))) (nomark _))
  (pss_one (ps_ret pe_str))
  pss_nil)))
  pss_nil)
 (pss_cons (ps_set (i := 5) scl_due_growth.nd rfl (Or.inl rfl) (pe_call Gl_raised (hr.mono (by omega)) (by rfl) T.gl_raised T.Fl_raised.kp T.bl_raised .nil pass0 (pa_cons (pv 2) (pa_cons (pe_ix ix_tup (pv 4) pe_int (fun _ _ => rfl)) pa_nil))))
 (pss_cut (ps_if (PW.pt (pw_and (pt_cmpR (op_neD hr.units) (pv 3) (pe_lst pa_nil) (nomark _)) (pw_and1 (pt_cmpR op_lt (pv 1) (pv 5) (nomark _)))))
  (pss_one (ps_ret (pe_tup (pa_cons (pe_call Gl_raised (hr.mono (by omega)) (by rfl) T.gl_raised T.Fl_raised.kp T.bl_raised .nil pass0 (pa_cons pe_int (pa_cons (pe_ix ix_tup (pv 4) pe_int (fun _ _ => rfl)) pa_nil))) (pa_cons pe_int (pa_cons (pe_ix ix_tup (pv 4) pe_int (fun _ _ => rfl)) pa_nil))))))
  pss_nil)
 (pss_cut (ps_set (i := 6) scl_due_growth.nd rfl (Or.inl rfl) (pe_ifExp (PW.pt (pw_and (pt_cmpR (op_neD hr.units) (pv 3) (pe_lst pa_nil) (nomark _)) (pw_and1 (pt_cmpR op_eq (pv 1) (pv 5) (nomark _))))) (pe_op op_add (pe_ix ix_tup (pv 4) pe_int (fun _ _ => rfl)) pe_int) pe_int))
 (pss_one (ps_ret (pe_ifExp (PW.pt (pw_and (pt_cmpR op_eq (pv 2) pe_int (nomark _)) (pw_and1 (pt_cmpR op_in_seq (pv 1) (pe_lst (pa_cons pe_int (pa_cons pe_int (pa_cons pe_int pa_nil)))) (by rfl))))) (pe_tup (pa_cons (pe_dget (hu_of hr) (pe_disp (pps_cons pe_int pe_int (pps_cons pe_int pe_int (pps_cons pe_int pe_int pps_nil))) (by rfl) (by rfl) (fun z => by cases z) (by decide)) (pv 1) (fun _ _ => rfl)) (pa_cons pe_int (pa_cons (pv 6) pa_nil)))) (pe_tup (pa_cons (pv 1) (pa_cons (pv 2) (pa_cons (pv 6) pa_nil)))))))))))))), ?_⟩
  obtain ⟨us, hSl, hRs⟩ := id hS
  obtain ⟨us0, bl, l, r, vs, rfl, hrm, hlast, hbl, hl, hv, _⟩ := last_row hRs hg.n0
  have lv := hv.length
  rw [List.length_map] at lv
  refine ⟨_, rfl, 1, rfl, S, _, -1, _, rfl, rfl, SqL.of hSl, atI_last us0 (.ref bl), bl, _, 1, _, rfl, rfl, SqT.of hbl, rfl, ?_⟩
  refine ⟨fun σ' H' => ∃ vt, σ' = [some (.ref S), some (.int m), some (.int b), some (.ref l), some vt, none, none, none, none, none, none] ∧ Same H H' ∧ Rp H' vt (encP (topOf r.2)), ?_, ?_⟩
  · refine ⟨_, rfl, ne_nil ⟨vs, hl, hv⟩ fun H1 s1 => ⟨_, rfl, ite2 (fun c => ?_) (fun c => ?_)⟩⟩
    · refine ⟨_, rfl, l, rfl, ⟨_, SqL.of (s1 _ _ hl)⟩, fun D nD => ?_⟩
      refine lc_grow (K := K) (fun j v H3 => ∃ t, r.2[j]? = some t ∧ Rp H3 v (encP t.1)) (fun i v Ha Hb la hla hh k => ?_) (by have := (hg.ok.terms r hrm).1; omega) (s1 _ _ hl) nD (fun j x H3 Nx3 hx3 s3 hD3 k3 => ?_) (fun H2 ys s2 hD2 hlen hys => ?_)
      · obtain ⟨t, h1, h2⟩ := hh
        exact ⟨t, h1, h2.to (imm_but hla k)⟩
      · obtain ⟨t, ht, hRt⟩ := rpl_terms (hv.to (Imm.same (s1.trans s3))) hx3
        obtain ⟨a, v1, v2, rfl, ha, h1, h2⟩ := rp_t2 hRt
        exact ⟨a, _, rfl, SqT.of ha, rfl, _, _, rfl, _, _, rfl, rfl, rfl, _, rfl, k3 _ _ (Same.refl _) ⟨t, ht, h1⟩⟩
      · have hK : RpL H2 ys (r.2.map fun t => encP t.1) := rpl_at (f := fun t => encP t.1) (by rw [hlen, lv]) hys
        have hf := hg.falls r hrm
        cases e : r.2 with
        | nil => rw [e] at c; cases c
        | cons t ts =>
          rw [e] at hK hf
          obtain ⟨v0, yr, rfl, h0, hyr⟩ := id hK
          exact ⟨D, v0, yr, pyK t, ts.map pyK, rfl, SqL.of hD2, dp_keys (t :: ts) _ hK, alike_keys (t :: ts), depth_keys (t :: ts), max_keys hf, v0, rfl, s1.trans s2, h0⟩
    · refine ⟨(by show 2 ≤ sizeLine; decide), fun p np => ⟨_, rfl, s1.trans (same_new np), ?_⟩⟩
      cases e : r.2 with
      | nil => exact rp_tup upd_same (rpl_cons rfl (rpl_cons rfl rpl_nil))
      | cons t ts => rw [e] at c; exact absurd rfl c
  · rintro σ' H1 ⟨vt, rfl, s1, hvt⟩
    obtain ⟨ta, x1, x2, rfl, hta, rfl, rfl⟩ := rp_t2 hvt
    have key : 0 ≤ (topOf r.2).1 ∧ (topOf r.2).1 ≤ 9 := by
      cases e : r.2 with
      | nil => exact ⟨by decide, by decide⟩
      | cons t ts =>
        have := (hg.ok.terms r hrm).2 t (by rw [e]; exact List.mem_cons_self)
        exact ⟨this.1, this.2.1⟩
    obtain ⟨k, hk⟩ : ∃ k : Nat, (topOf r.2).1 = k := ⟨(topOf r.2).1.toNat, by omega⟩
    have g0 : r.2 = [] → grow rs m b = if m = 0 ∨ (rs.all fun r => r.2.isEmpty) = true then .no else if worthOf rs 0 = (0, 1) then .un else .gr (tld m b).1 (tld m b).2 0 := fun e => by
      unfold grow
      rw [hlast, e]
    have g1 : ¬ r.2 = [] → grow rs m b = if m = 0 ∨ m < b ^ k then .gr (2 ^ k) 2 (topOf r.2).2 else .gr (tld m b).1 (tld m b).2 (if m > b ^ k then 0 else (topOf r.2).2 + 1) := fun e => by
      unfold grow
      rw [hlast]
      cases e2 : r.2 with
      | nil => exact absurd e2 e
      | cons t ts =>
        have hk2 : t.1.1.toNat = k := by
          rw [e2] at hk
          have : t.1.1 = k := hk
          omega
        show (if m = 0 ∨ m < b ^ t.1.1.toNat then Res.gr (2 ^ t.1.1.toNat) 2 t.1.2 else _) = _
        rw [hk2]
        rfl
    have own : ∀ H2, Same H H2 → grow rs m b = .gr (2 ^ k) 2 (topOf r.2).2 → ∀ p, H2 p = none → Q (.ref p) (upd H2 p (.tup [.int (2 ^ k), .int 2, .int (topOf r.2).2])) := fun H2 s2 hgr p np => q _ _ (s2.trans (same_new np)) (by
      rw [hgr]
      exact rp_tup upd_same (rpl_cons rfl (rpl_cons rfl (rpl_cons rfl rpl_nil))))
    have hTm : ∀ {H2}, Same H1 H2 → TermsAt H2 l r.2 := fun s2 => TermsAt.same ⟨vs, hl, hv⟩ (s1.trans s2)
    have emp : ∀ {c : Bool}, r.2.isEmpty = c → (r.2 = [] ↔ c = true) := fun h => by
      rw [← h]
      cases r.2 <;> simp
    refine ⟨_, rfl, rfl, _, rfl, ite2 (fun c => ?_) (fun c => ?_)⟩
    · have e0 : m = 0 := V.int.inj (of_decide_eq_true c)
      refine ⟨_, rfl, eq_nil (hTm (Same.refl _)) fun H2 s2 => ⟨_, rfl, ite2 (fun c2 => ?_) (fun c2 => ?_)⟩⟩
      · have e2 : r.2 = [] := (emp rfl).mpr c2
        have hgr := g0 e2
        rw [if_pos (.inl e0)] at hgr
        exact q _ _ (s1.trans s2) (by rw [hgr]; rfl)
      · have e2 : ¬ r.2 = [] := fun z => c2 ((emp rfl).mp z)
        have hgr := g1 e2
        rw [if_pos (.inl e0)] at hgr
        refine ⟨_, rfl, ta, _, 0, _, rfl, rfl, SqT.of (s2 _ _ hta), rfl, 2, k, by rw [hk]; rfl, by decide, by omega, ?_⟩
        exact ⟨_, rfl, ta, _, 1, _, rfl, rfl, SqT.of (s2 _ _ hta), rfl, (by show 3 ≤ sizeLine; decide), fun p np => own H2 (s1.trans s2) hgr p np⟩
    have e0 : ¬ m = 0 := fun z => c (decide_eq_true (by rw [z]))
    refine ⟨fun σ' H' => σ' = [some (.ref S), some (.int m), some (.int b), some (.ref l), some (.ref ta), none, none, none, none, none, none] ∧ Same H1 H' ∧ (r.2 = [] → grow rs m b = .gr (tld m b).1 (tld m b).2 0), ?_, ?_⟩
    · refine ⟨_, rfl, eq_nil (hTm (Same.refl _)) fun H2 s2 => ⟨_, rfl, ite2 (fun c2 => ?_) (fun c2 => ?_)⟩⟩
      · have e2 : r.2 = [] := (emp rfl).mpr c2
        have hgr := g0 e2
        have sS := s1.trans s2
        have hR2 := hRs.same sS
        refine ⟨_, rfl, S, rfl, ⟨_, SqL.of (sS _ _ hSl)⟩, fun D nD => ?_⟩
        refine lc_list_map2 (K := K) ((rs.map fun r => r.2.isEmpty).map V.bl) (by rw [List.length_map, List.length_map, hRs.len.1]) (by have := hg.ok.short; rw [hRs.len.1]; omega) (sS _ _ hSl) nD (fun i x y H3 Nx hx hy s3 k3 => ?_) (fun H3 s3 hD3 => ?_)
        · obtain ⟨r3, l3, hr3, hl3, hR3⟩ := (hR2.same s3).get hx
          obtain ⟨b', rfl, hb', hT3⟩ := hR3
          have ey : y = .bl r3.2.isEmpty := by
            rw [List.getElem?_map, List.getElem?_map, hr3] at hy
            exact (Option.some.inj hy).symm
          subst ey
          exact ⟨b', _, rfl, SqT.of hb', rfl, _, _, rfl, _, _, rfl, rfl, rfl, _, rfl, eq_nil hT3 fun H4 s4 => k3 H4 s4⟩
        refine ⟨D, _, rfl, SqL.of hD3, _, rfl, ?_⟩
        have ea : ((rs.map fun r => r.2.isEmpty).all id) = (rs.all fun r => r.2.isEmpty) := by rw [List.all_map]; rfl
        rw [ea]
        refine ite2 (fun c3 => ?_) (fun c3 => ?_)
        · rw [if_pos (.inr c3)] at hgr
          exact q _ _ (sS.trans s3) (by rw [hgr]; rfl)
        rw [if_neg (fun z => z.elim e0 c3)] at hgr
        refine ⟨_, rfl, S, rs, ls, 0, rfl, hS.same (sS.trans s3), hg.ok, by decide, by decide, fun v H4 s4 hP => ?_⟩
        refine ⟨(by show 2 ≤ sizeLine; decide), fun p np => ?_⟩
        refine ⟨_, _, dp_part (PartAt.of_rp (hP.to (Imm.same (same_new np)))), .tup (SqT.of upd_same) (.cons (.int _) (.cons (.int _) .nil)), shaped_pair _ _, shaped_pair _ _, ?_⟩
        rw [eqv_pair]
        refine ⟨_, rfl, ite2 (fun c4 => ?_) (fun c4 => ?_)⟩
        · have ew : worthOf rs 0 = (0, 1) := of_decide_eq_true c4
          rw [if_pos ew] at hgr
          exact q _ _ (((sS.trans s3).trans s4).trans (same_new np)) (by rw [hgr]; rfl)
        · have ew : ¬ worthOf rs 0 = (0, 1) := fun z => c4 (decide_eq_true z)
          rw [if_neg ew] at hgr
          exact ⟨rfl, ((s2.trans s3).trans s4).trans (same_new np), fun _ => hgr⟩
      · have e2 : ¬ r.2 = [] := fun z => c2 ((emp rfl).mp z)
        exact ⟨rfl, s2, fun z => absurd z e2⟩
    rintro σ' H2 ⟨rfl, s2, hemp⟩
    refine ⟨_, rfl, _, rfl, ta, _, 0, _, rfl, rfl, SqT.of (s2 _ _ hta), rfl, b, k, by rw [hk]; rfl, by omega, by omega, ?_⟩
    refine ⟨fun σ' H' => σ' = [some (.ref S), some (.int m), some (.int b), some (.ref l), some (.ref ta), some (.int (b ^ k)), none, none, none, none, none] ∧ Same H1 H' ∧ (¬ r.2 = [] → ¬ m < b ^ k), ?_, ?_⟩
    · refine ⟨_, rfl, ne_nil (hTm s2) fun H3 s3 => ⟨_, rfl, ite2 (fun c2 => ?_) (fun c2 => ?_)⟩⟩
      · have e2 : ¬ r.2 = [] := fun z => by rw [z] at c2; cases c2
        refine ⟨_, rfl, _, rfl, m, b ^ k, rfl, rfl, _, rfl, ite2 (fun c3 => ?_) (fun c3 => ?_)⟩
        · have e3 : m < b ^ k := of_decide_eq_true c3
          have hgr := g1 e2
          rw [if_pos (.inr e3)] at hgr
          have s23 := s2.trans s3
          refine ⟨_, rfl, ta, _, 0, _, rfl, rfl, SqT.of (s23 _ _ hta), rfl, 2, k, by rw [hk]; rfl, by decide, by omega, ?_⟩
          exact ⟨_, rfl, ta, _, 1, _, rfl, rfl, SqT.of (s23 _ _ hta), rfl, (by show 3 ≤ sizeLine; decide), fun p np => own H3 (s1.trans s23) hgr p np⟩
        · exact ⟨rfl, s2.trans s3, fun _ z => c3 (decide_eq_true z)⟩
      · have e2 : r.2 = [] := by
          cases e : r.2 with
          | nil => rfl
          | cons t ts => rw [e] at c2; exact absurd rfl c2
        exact ⟨rfl, s2.trans s3, fun z => absurd e2 z⟩
    rintro σ' H3 ⟨rfl, s3, hle⟩
    refine ⟨fun σ' H' => ∃ f : Int, σ' = [some (.ref S), some (.int m), some (.int b), some (.ref l), some (.ref ta), some (.int (b ^ k)), some (.int f), none, none, none, none] ∧ Same H1 H' ∧ grow rs m b = .gr (tld m b).1 (tld m b).2 f, ?_, ?_⟩
    · refine ⟨_, rfl, ne_nil (hTm s3) fun H4 s4 => ⟨_, rfl, ite2 (fun c2 => ?_) (fun c2 => ?_)⟩⟩
      · have e2 : ¬ r.2 = [] := fun z => by rw [z] at c2; cases c2
        have hgr := g1 e2
        rw [if_neg (fun z => z.elim e0 (hle e2))] at hgr
        refine ⟨_, rfl, _, rfl, rfl, _, rfl, ite2 (fun c3 => ?_) (fun c3 => ?_)⟩
        · have e3 : m = b ^ k := V.int.inj (of_decide_eq_true c3)
          rw [if_neg (by omega)] at hgr
          exact ⟨_, rfl, ta, _, 1, _, rfl, rfl, SqT.of ((s3.trans s4) _ _ hta), rfl, _, _, rfl, rfl, _, rfl, s3.trans s4, hgr⟩
        · have e3 : ¬ m = b ^ k := fun z => c3 (decide_eq_true (by rw [z]))
          have := hle e2
          rw [if_pos (by omega)] at hgr
          exact ⟨_, rfl, s3.trans s4, hgr⟩
      · have e2 : r.2 = [] := by
          cases e : r.2 with
          | nil => rfl
          | cons t ts => rw [e] at c2; exact absurd rfl c2
        exact ⟨_, rfl, s3.trans s4, hemp e2⟩
    rintro σ' H4 ⟨f, rfl, s4, hgr⟩
    refine ⟨_, rfl, rfl, _, rfl, ite2 (fun c2 => ?_) (fun c2 => ?_)⟩
    · have e3 : b = 3 := V.int.inj (of_decide_eq_true c2)
      have hm : m = 1 ∨ m = 2 ∨ m = 3 ∨ m = 4 ∨ m = 5 ∨ m = 6 ∨ m = 7 ∨ m = 8 ∨ m = 9 := by omega
      refine ⟨_, rfl, (by show 3 ≤ sizeLine; decide), fun p np => ⟨p, _, rfl, .inl (SqL.of upd_same), rfl, rfl, _, rfl, ?_⟩⟩
      have s5 := (s1.trans s4).trans (same_new (o := .lst [.int 1, .int 3, .int 9]) np)
      subst e3
      have hit : ∀ vv : Int, tld m 3 = (vv, 2) → valV (mergeK [] [((Sum.inl 1 : Key), V.int 1), (Sum.inl 3, .int 2), (Sum.inl 9, .int 4)]) (Sum.inl m : Key) = some (.int vv) →
          tTup (tCons (tDGet (tDisp [(tC (V.int 1), tC (V.int 1)), (tC (V.int 3), tC (V.int 2)), (tC (V.int 9), tC (V.int 4))]) (tVar 1)) (tCons (tC (V.int 2)) (tCons (tVar 6) tNil)))
            [some (V.ref S), some (V.int m), some (V.int 3), some (V.ref l), some (V.ref ta), some (V.int (3 ^ k)), some (V.int f), none, none, none, none] (upd H4 p (.lst [.int 1, .int 3, .int 9])) Q := fun vv ht hval => by
        intro pd nd
        refine ⟨upd_same, [(Sum.inl 1, .int 1), (Sum.inl 3, .int 2), (Sum.inl 9, .int 4)], rfl, by show 3 ≤ 15; decide, _, rfl, pd, .int vv, rfl, .inl ⟨_, Sum.inl m, .inl upd_same, rfl, hval.symm⟩, _, rfl, (by show 3 ≤ sizeLine; decide), fun pt nt => ?_⟩
        refine q _ _ ((s5.trans (Same.upd_new (same_new nd) nd)).trans (same_new nt)) ?_
        rw [hgr, ht]
        exact rp_tup upd_same (rpl_cons rfl (rpl_cons rfl (rpl_cons rfl rpl_nil)))
      have miss : tld m 3 = (m, 3) →
          tTup (tCons (tVar 1) (tCons (tVar 2) (tCons (tVar 6) tNil)))
            [some (V.ref S), some (V.int m), some (V.int 3), some (V.ref l), some (V.ref ta), some (V.int (3 ^ k)), some (V.int f), none, none, none, none] (upd H4 p (.lst [.int 1, .int 3, .int 9])) Q := fun ht => by
        refine ⟨_, rfl, _, rfl, _, rfl, (by show 3 ≤ sizeLine; decide), fun pt nt => ?_⟩
        refine q _ _ (s5.trans (same_new nt)) ?_
        rw [hgr, ht]
        exact rp_tup upd_same (rpl_cons rfl (rpl_cons rfl (rpl_cons rfl rpl_nil)))
      rcases hm with rfl | rfl | rfl | rfl | rfl | rfl | rfl | rfl | rfl
      · exact ite2 (fun _ => hit 1 rfl rfl) (fun z => absurd rfl z)
      · exact ite2 (fun z => absurd z (by decide)) (fun _ => miss rfl)
      · exact ite2 (fun _ => hit 2 rfl rfl) (fun z => absurd rfl z)
      · exact ite2 (fun z => absurd z (by decide)) (fun _ => miss rfl)
      · exact ite2 (fun z => absurd z (by decide)) (fun _ => miss rfl)
      · exact ite2 (fun z => absurd z (by decide)) (fun _ => miss rfl)
      · exact ite2 (fun z => absurd z (by decide)) (fun _ => miss rfl)
      · exact ite2 (fun z => absurd z (by decide)) (fun _ => miss rfl)
      · exact ite2 (fun _ => hit 4 rfl rfl) (fun z => absurd rfl z)
    · have e3 : ¬ b = 3 := fun z => c2 (decide_eq_true (by rw [z]))
      have et : tld m b = (m, b) := by
        unfold tld
        rw [if_neg e3]
      refine ⟨_, rfl, _, rfl, _, rfl, (by show 3 ≤ sizeLine; decide), fun p np => q _ _ ((s1.trans s4).trans (same_new np)) ?_⟩
      rw [hgr, et]
      exact rp_tup upd_same (rpl_cons rfl (rpl_cons rfl (rpl_cons rfl rpl_nil)))
end
end K14

set_option Elab.async false
set_option linter.all false
set_option maxRecDepth 100000
set_option maxHeartbeats 4000000
namespace K14
open PySem PySem.Spec PyProof.Rows L2 OG
open C8 (pss_cut pe_gc)
open OGX

section
variable {P : Program} {w : World} {K : PySem.W.Frag} {mg : Str → Option Value} {base : Heap}
def spClass (CU : Addr) : SpX := fun a cls d vs H Q _ => vs = [.ref a] ∧ cls = .ref CU ∧ ∃ dd, d = some dd ∧ H dd = some (.xd uneF) ∧ Q (.str "Uneven") H
theorem ok_class (T : Tops K mg) (X : Exx K mg) : FnX P w K mg base 1 T.fl_class T.dl_class ["_law_e"] (spClass X.CU) := by
  obtain ⟨oc, od, kV, doc, pm, an, cdv, ct, osl, e, lk, hcd⟩ := T.Fl_class.ex
  rw [e] at lk ⊢
  refine fn_ofX (N := Nl_class) lk hcd scl_class (fun a cls d vs H Q E h => ?_) (fun A outer s H vs Q E a oe cls d hz hf hr h => ?_)
  · obtain ⟨rfl, _⟩ := h
    rfl
  obtain ⟨rfl, rfl, dd, rfl, hdd, q⟩ := h
  have hp : (a, oe) ∈ (L2H.cxH C8.CX0 P w K mg base Nl_class "_law_class" (defScope sl_class) T.fl_class cdv A outer s H E (a, oe)).pn := List.mem_cons_self
  refine ⟨_, pss_cons (ps_if (PW.pt (pw_or (pt_cmpR op_eq (pe_callB (call_isX hp hz hf) (by rfl) T.misinstance (by decide +kernel) (pa_cons (pv 0) (pa_cons (pe_gc (v := .ref X.CM) (by rfl) ⟨_, X.gM, rfl⟩) pa_nil))) (pe_callB (call_isX hp hz hf) (by rfl) T.misinstance (by decide +kernel) (pa_cons (pv 0) (pa_cons (pe_gc (v := .ref X.CF) (by rfl) ⟨_, X.gF, rfl⟩) pa_nil))) (nomark _)) (pw_or1 (pt_not (pt_val (pe_callB (call_isX hp hz hf) (by rfl) T.misinstance (by decide +kernel) (pa_cons (pv 0) (pa_cons (pe_bltn (v := .ty "ValueError") (by rfl) X.mV (by decide +kernel) rfl) pa_nil))))))))
    (pss_one (ps_ret pe_str)) pss_nil) (pss_one (ps_ret (pe_xfX (n := "word") hp X.xU X.wU hz hf (pv 0)))), ?_⟩
  refine ⟨_, rfl, X.CU, dd, _, .ref X.CM, _, false, rfl, rfl, rfl, X.eU, hdd, fun u h => h, X.kM, ?_⟩
  refine ⟨_, rfl, X.CU, dd, _, .ref X.CF, _, true, rfl, rfl, rfl, X.eU, hdd, fun u h => h, X.kF, ?_⟩
  refine ⟨rfl, _, rfl, ite2 (fun z => absurd z (by decide)) (fun _ => ?_)⟩
  refine ⟨_, rfl, X.CU, dd, _, .ty "ValueError", _, true, rfl, rfl, rfl, X.eU, hdd, fun u h => h, X.kV, _, rfl, ite2 (fun z => absurd z (by decide)) (fun _ => ?_)⟩
  exact ⟨_, rfl, rfl, rfl, dd, _, _, rfl, hdd, rfl, q⟩
def eTried (CU : Addr) (Q : VK) : XK := fun cls d H' => cls = .ref CU ∧ ∃ dd, d = some dd ∧ H' dd = some (.xd uneF) ∧ ∀ p, H' p = none → Q (.ref p) (upd H' p (.tup [.str "Uneven", .str ""]))
def TTried (CU : Addr) : (XK → Hp → VK → Prop) → Hp → VK → Prop := fun tl H Q => tl (eTried CU Q) H (fun v H' => 2 ≤ sizeLine ∧ ∀ p, H' p = none → Q (.ref p) (upd H' p (.tup [.str "told", v])))
theorem exm_ten (X : Exx K mg) : PySem.W.exmAny K (.ref X.CU) [.ref X.CNoName, .ref X.CTwice, .ref X.CNoPlan, .ref X.CNoLabel, .ref X.CTaken, .ref X.CRing, .ref X.CNotPlain, .ref X.CTangled, .ref X.CBreaks, .ref X.CInUse, .ref X.CU] = some true := by
  simp only [PySem.W.exmAny, X.xNoName, X.xTwice, X.xNoPlan, X.xNoLabel, X.xTaken, X.xRing, X.xNotPlain, X.xTangled, X.xBreaks, X.xInUse, X.xU2]
  rfl
theorem exm_no {cls c : Value} (h : PySem.W.exmOne K cls c = some false) : PySem.W.exmAny K cls [c] = some false := by
  simp only [PySem.W.exmAny, h]
  rfl
theorem tried_gives {Y : Cx} {k : Nat} {cdg : Value} {q : Str} (T : Tops Y.K Y.mg) (X : Exx Y.K Y.mg) (GC : FnX Y.prog Y.w Y.K Y.mg Y.base 1 T.fl_class T.dl_class ["_law_e"] (spClass X.CU)) (hr : Room (k + 3) Y.A) :
    LamX.GivesTo Y Nl_tried "_law_tried" (defScope sl_tried) T.fl_tried cdg (defBody sl_tried) "_law_ask" q (TTried X.CU) := by
  intro f c' s H Q tl act hc h
  have hR : L2H.RoomH 1 (cxOf C8.CX0 Y.prog Y.w Y.K Y.mg Y.base Nl_tried "_law_tried" (defScope sl_tried) T.fl_tried cdg Y.A Y.stack s H C8.E0).nox.A := (L2H.roomH_of ((hr.deeper _).mono (by omega)))
  refine ⟨_, pss_one (ps_try_X (X := (cxOf C8.CX0 Y.prog Y.w Y.K Y.mg Y.base Nl_tried "_law_tried" (defScope sl_tried) T.fl_tried cdg Y.A Y.stack s H C8.E0).nox)
      (tb := fun W D σ H => ∃ Ech : XK, (∀ cls d σ' H', Ech cls d H' → W cls d σ' H') ∧ σ[0]? = some (some (.ref f)) ∧ H c' = some (LamX.CodeO c' q) ∧ tl Ech H (fun v H' => 2 ≤ sizeLine ∧ ∀ p, H' p = none → D.rt (.ref p) (upd H' p (.tup [.str "told", v]))))
      rfl rfl scl_tried.nd (fun W pn xe tk _ => ?_)
      (.cons (i := 1) (ts := fun _ _ _ _ _ _ => False) rfl rfl (.one ⟨by rfl, by decide, .inl X.gBadText⟩) (fun a oe cls d pn hz hf => ⟨fun _ _ _ _ _ _ z => z.elim⟩)
      (.cons (i := 1) (ts := fun _ _ _ _ _ _ => False) rfl rfl (.one ⟨by rfl, by decide, .inl X.gBadPage⟩) (fun a oe cls d pn hz hf => ⟨fun _ _ _ _ _ _ z => z.elim⟩)
      (.cons (i := 1) (ts := fun _ _ _ _ _ _ => False) rfl rfl (.one ⟨by rfl, by decide, .inl X.gStopped⟩) (fun a oe cls d pn hz hf => ⟨fun _ _ _ _ _ _ z => z.elim⟩)
      (.cons (i := 1) rfl rfl (.tup (.cons ⟨by rfl, by decide, .inl X.gNoName⟩ (.cons ⟨by rfl, by decide, .inl X.gTwice⟩ (.cons ⟨by rfl, by decide, .inl X.gNoPlan⟩ (.cons ⟨by rfl, by decide, .inl X.gNoLabel⟩ (.cons ⟨by rfl, by decide, .inl X.gTaken⟩ (.cons ⟨by rfl, by decide, .inl X.gRing⟩ (.cons ⟨by rfl, by decide, .inl X.gNotPlain⟩ (.cons ⟨by rfl, by decide, .inl X.gTangled⟩ (.cons ⟨by rfl, by decide, .inl X.gBreaks⟩ (.cons ⟨by rfl, by decide, .inl X.gInUse⟩ (.cons ⟨by rfl, by decide, .inl X.gU⟩ .nil))))))))))) (by show 11 ≤ sizeLine; decide))
        (fun a oe cls d pn hz hf => pss_one (ps_ret (pe_tup (pa_cons (pe_callX GC hR hz hf (by rfl) T.gl_class T.Fl_class.kp T.bl_class (pa_cons (pv 1) pa_nil)) (pa_cons (pe_xfX (n := "name") List.mem_cons_self X.xU X.nU hz hf (pv 1)) pa_nil)))))
      .nil))))), ?_⟩
  · refine ⟨fun pins s' σ H' D I h' => ?_⟩
    obtain ⟨Ech, hW, h1, h2, h3⟩ := h'
    exact PSs.run (X := ((cxOf C8.CX0 Y.prog Y.w Y.K Y.mg Y.base Nl_tried "_law_tried" (defScope sl_tried) T.fl_tried cdg Y.A Y.stack s H C8.E0).nox.tr pn xe)) (pss_one (ps_ret (pe_tup (pa_cons pe_str (pa_cons (act W pn xe Ech _ _ tk hW) pa_nil))))) pins s' σ H' D I ⟨h1, h2, h3⟩
  · refine ⟨eTried X.CU Q, fun cls d σ' H' hE => ?_, rfl, hc, ?_⟩
    · obtain ⟨rfl, dd, rfl, hdd, qd⟩ := hE
      refine ⟨false, exm_no X.xBadText, (fun z => by cases z), fun _ => ⟨false, exm_no X.xBadPage, (fun z => by cases z), fun _ => ⟨false, exm_no X.xStopped, (fun z => by cases z), fun _ => ⟨true, exm_ten X, fun _ hlen a na => ?_, (fun z => by cases z)⟩⟩⟩⟩
      match σ', hlen with
      | [x0, x1], _ =>
        exact ⟨_, rfl, ⟨rfl, rfl, dd, rfl, hdd, _, rfl, rfl, rfl, dd, _, _, rfl, hdd, rfl, (by show 2 ≤ sizeLine; decide), fun p np => qd p np⟩⟩
    · exact h
end
end K14

set_option Elab.async false
set_option linter.all false
set_option maxRecDepth 100000
set_option maxHeartbeats 4000000
namespace K14
open PySem PySem.Spec PyProof.Rows L2 OG
open C8 (pss_cut pe_gc)
open OGX

section
variable {P : Program} {w : World} {K : PySem.W.Frag} {mg : Str → Option Value} {base : Heap}
theorem exx_mk {K : PySem.W.Frag} {h : Heap} {mg : Str → Option Value} (X : K.In h) (G : h.Ns mainGlobals mg)
    {CU CF CR CM fU fF fR fG kD TF TR NU : Addr}
    {nmU qU : Str} {bsU bmU subU : List Value} {snU : List Str} {abU : Bool} {colU : Option Bool} {ddU : Option Addr} {m0U m1U m2U m3U m5U : Option Value}
    {ocU kVU dcU pmU cdU ctU : Value} {odU anU : Option Addr} {slU : Array (Option Value)}
    {ocF kVF dcF pmF cdF ctF : Value} {odF anF : Option Addr} {slF : Array (Option Value)}
    {ocR kVR dcR pmR cdR ctR : Value} {odR anR : Option Addr} {slR : Array (Option Value)}
    {ocG dcG pmG cdG ctG : Value} {odG anG : Option Addr} {slG : Array (Option Value)}
    {dxF : Option Addr} {sxF : Array (Option Value)} {tk1F tk2F : Tok} {nnF : Nat}
    {dxR : Option Addr} {sxR : Array (Option Value)} {tk1R tk2R : Tok} {nnR : Nat}
    {tm tb : Tok}
    {CBadText : Addr}
    {CBadPage : Addr}
    {CStopped : Addr}
    {CNoName : Addr}
    {CTwice : Addr}
    {CNoPlan : Addr}
    {CNoLabel : Addr}
    {CTaken : Addr}
    {CRing : Addr}
    {CNotPlain : Addr}
    {CTangled : Addr}
    {CBreaks : Addr}
    {CInUse : Addr}
    (aU : PySem.W.nsIn K mainGlobals "Uneven" = some (some (.ref CU)))
    (aF : PySem.W.nsIn K mainGlobals "Unfit" = some (some (.ref CF)))
    (aR : PySem.W.nsIn K mainGlobals "Refused" = some (some (.ref CR)))
    (aM : PySem.W.nsIn K mainGlobals "Misread" = some (some (.ref CM)))
    (xU : K.lookup CU = some (excClassObj nmU qU CU NU bsU bmU true snU subU abU colU ddU m0U m1U m2U m3U m5U "ValueError.__new__"))
    (rU : PySem.HandSPX.refsVE bmU = true)
    (saU : PySem.W.findIn K (.ref CU) "__setattr__" = some (some (.builtin "object.__setattr__")))
    (eU : PySem.W.subIn K (.ref CU) (.type "BaseException") = some true)
    (tU : PySem.W.typeIn K (.ref CU) = some (.type "type"))
    (kU : PySem.W.keepIn K (.ref CU) = true)
    (gaU : PySem.W.findIn K (.ref CU) "__getattribute__" = some (some (.builtin "BaseException.__getattribute__")))
    (ggU : PySem.W.findIn K (.ref CU) "__getattr__" = some none)
    (hdU : PySem.W.hasDictIn K CU = true)
    (gcU : PySem.W.findIn K (.ref CU) "__class__" = some (some (.builtin "object.__class__")))
    (moU : PySem.W.mroIn K CU (.type "object") = some true)
    (wU : PySem.W.findIn K (.ref CU) "word" = some none)
    (nU : PySem.W.findIn K (.ref CU) "name" = some none)
    (iU : PySem.W.findIn K (.ref CU) "__init__" = some (some (.ref fU)))
    (tiU : PySem.W.typeIn K (.ref fU) = some (.type "function"))
    (oc : PySem.W.specialIn K (.builtin "object.__class__") "__get__" = some (some (.builtin "getset_descriptor.__get__")))
    (ot : PySem.W.takesIn K (.builtin "object.__class__") = some true)
    (fcU : PySem.W.findCls K (.ref CU) (.type "type") "__init__" = some (.val (.ref fU)))
    (lU : K.lookup fU = some ⟨ocU, odU, .func (PySem.W.fnOf "__init__" "Uneven.__init__" (defArgs sU) (defBody sU) (defScope sU) .none kVU dcU pmU anU cdU ctU), slU⟩)
    (cU : PySem.W.codeIn K cdU "Uneven.__init__" = true)
    (kfU : PySem.W.keepIn K (.ref fU) = true)
    (fcF : PySem.W.findCls K (.ref CF) (.type "type") "__init__" = some (.val (.ref fF)))
    (lF : K.lookup fF = some ⟨ocF, odF, .func (PySem.W.fnOf "__init__" "Unfit.__init__" (defArgs sF) (defBody sF) (defScope sF) (.ref TF) kVF dcF pmF anF cdF ctF), slF⟩)
    (cF : PySem.W.codeIn K cdF "Unfit.__init__" = true)
    (kfF : PySem.W.keepIn K (.ref fF) = true)
    (fcR : PySem.W.findCls K (.ref CR) (.type "type") "__init__" = some (.val (.ref fR)))
    (lR : K.lookup fR = some ⟨ocR, odR, .func (PySem.W.fnOf "__init__" "Refused.__init__" (defArgs sR) (defBody sR) (defScope sR) (.ref TR) kVR dcR pmR anR cdR ctR), slR⟩)
    (cR : PySem.W.codeIn K cdR "Refused.__init__" = true)
    (kfR : PySem.W.keepIn K (.ref fR) = true)
    (dtF : K.lookup TF = some ⟨.type "tuple", dxF, .seq #[.str "Unfit" tk1F, .str "" tk2F] nnF, sxF⟩)
    (rdF : PySem.W.readsIn K CF (.type "type") = true)
    (sgF : PySem.W.specialIn K (.ref CF) "__getattribute__" = some (some (.builtin "type.__getattribute__")))
    (dtR : K.lookup TR = some ⟨.type "tuple", dxR, .seq #[.str "Refused" tk1R, .str "" tk2R] nnR, sxR⟩)
    (rdR : PySem.W.readsIn K CR (.type "type") = true)
    (sgR : PySem.W.specialIn K (.ref CR) "__getattribute__" = some (some (.builtin "type.__getattribute__")))
    (aG : PySem.W.nsIn K mainGlobals "growth" = some (some (.ref fG)))
    (lG : K.lookup fG = some ⟨ocG, odG, .func (PySem.W.fnOf "growth" "growth" (defArgs sgrowth) (defBody sgrowth) (defScope sgrowth) .none (.ref kD) dcG pmG anG cdG ctG), slG⟩)
    (cG : PySem.W.codeIn K cdG "growth" = true)
    (kG : PySem.W.keepIn K (.ref fG) = true)
    (km : PySem.W.nsIn K kD "many" = some (some (.int 0 tm)))
    (kb : PySem.W.nsIn K kD "base" = some (some (.int 2 tb)))
    (zV : PySem.W.nsIn K mainGlobals "ValueError" = some none)
    (ve : PySem.W.findCls K (.type "ValueError") (.type "type") "__init__" = some (.val (.builtin "ValueError.__init__")))
    (kum : PySem.W.kitOne K (.ref CU) (.ref CM) = some false)
    (kuf : PySem.W.kitOne K (.ref CU) (.ref CF) = some true)
    (kuv : PySem.W.kitOne K (.ref CU) (.type "ValueError") = some true)
    (uu : PySem.W.subIn K (.ref CU) (.ref CU) = some true)
    (aBadText : PySem.W.nsIn K mainGlobals "BadText" = some (some (.ref CBadText)))
    (bBadText : PySem.W.subIn K (.ref CBadText) (.type "BaseException") = some true)
    (hBadText : PySem.W.hasDictIn K CBadText = true)
    (tBadText : PySem.W.typeIn K (.ref CBadText) = some (.type "type"))
    (sBadText : PySem.W.subIn K (.ref CU) (.ref CBadText) = some false)
    (aBadPage : PySem.W.nsIn K mainGlobals "BadPage" = some (some (.ref CBadPage)))
    (bBadPage : PySem.W.subIn K (.ref CBadPage) (.type "BaseException") = some true)
    (hBadPage : PySem.W.hasDictIn K CBadPage = true)
    (tBadPage : PySem.W.typeIn K (.ref CBadPage) = some (.type "type"))
    (sBadPage : PySem.W.subIn K (.ref CU) (.ref CBadPage) = some false)
    (aStopped : PySem.W.nsIn K mainGlobals "Stopped" = some (some (.ref CStopped)))
    (bStopped : PySem.W.subIn K (.ref CStopped) (.type "BaseException") = some true)
    (hStopped : PySem.W.hasDictIn K CStopped = true)
    (tStopped : PySem.W.typeIn K (.ref CStopped) = some (.type "type"))
    (sStopped : PySem.W.subIn K (.ref CU) (.ref CStopped) = some false)
    (aNoName : PySem.W.nsIn K mainGlobals "NoName" = some (some (.ref CNoName)))
    (bNoName : PySem.W.subIn K (.ref CNoName) (.type "BaseException") = some true)
    (hNoName : PySem.W.hasDictIn K CNoName = true)
    (tNoName : PySem.W.typeIn K (.ref CNoName) = some (.type "type"))
    (sNoName : PySem.W.subIn K (.ref CU) (.ref CNoName) = some false)
    (aTwice : PySem.W.nsIn K mainGlobals "Twice" = some (some (.ref CTwice)))
    (bTwice : PySem.W.subIn K (.ref CTwice) (.type "BaseException") = some true)
    (hTwice : PySem.W.hasDictIn K CTwice = true)
    (tTwice : PySem.W.typeIn K (.ref CTwice) = some (.type "type"))
    (sTwice : PySem.W.subIn K (.ref CU) (.ref CTwice) = some false)
    (aNoPlan : PySem.W.nsIn K mainGlobals "NoPlan" = some (some (.ref CNoPlan)))
    (bNoPlan : PySem.W.subIn K (.ref CNoPlan) (.type "BaseException") = some true)
    (hNoPlan : PySem.W.hasDictIn K CNoPlan = true)
    (tNoPlan : PySem.W.typeIn K (.ref CNoPlan) = some (.type "type"))
    (sNoPlan : PySem.W.subIn K (.ref CU) (.ref CNoPlan) = some false)
    (aNoLabel : PySem.W.nsIn K mainGlobals "NoLabel" = some (some (.ref CNoLabel)))
    (bNoLabel : PySem.W.subIn K (.ref CNoLabel) (.type "BaseException") = some true)
    (hNoLabel : PySem.W.hasDictIn K CNoLabel = true)
    (tNoLabel : PySem.W.typeIn K (.ref CNoLabel) = some (.type "type"))
    (sNoLabel : PySem.W.subIn K (.ref CU) (.ref CNoLabel) = some false)
    (aTaken : PySem.W.nsIn K mainGlobals "Taken" = some (some (.ref CTaken)))
    (bTaken : PySem.W.subIn K (.ref CTaken) (.type "BaseException") = some true)
    (hTaken : PySem.W.hasDictIn K CTaken = true)
    (tTaken : PySem.W.typeIn K (.ref CTaken) = some (.type "type"))
    (sTaken : PySem.W.subIn K (.ref CU) (.ref CTaken) = some false)
    (aRing : PySem.W.nsIn K mainGlobals "Ring" = some (some (.ref CRing)))
    (bRing : PySem.W.subIn K (.ref CRing) (.type "BaseException") = some true)
    (hRing : PySem.W.hasDictIn K CRing = true)
    (tRing : PySem.W.typeIn K (.ref CRing) = some (.type "type"))
    (sRing : PySem.W.subIn K (.ref CU) (.ref CRing) = some false)
    (aNotPlain : PySem.W.nsIn K mainGlobals "NotPlain" = some (some (.ref CNotPlain)))
    (bNotPlain : PySem.W.subIn K (.ref CNotPlain) (.type "BaseException") = some true)
    (hNotPlain : PySem.W.hasDictIn K CNotPlain = true)
    (tNotPlain : PySem.W.typeIn K (.ref CNotPlain) = some (.type "type"))
    (sNotPlain : PySem.W.subIn K (.ref CU) (.ref CNotPlain) = some false)
    (aTangled : PySem.W.nsIn K mainGlobals "Tangled" = some (some (.ref CTangled)))
    (bTangled : PySem.W.subIn K (.ref CTangled) (.type "BaseException") = some true)
    (hTangled : PySem.W.hasDictIn K CTangled = true)
    (tTangled : PySem.W.typeIn K (.ref CTangled) = some (.type "type"))
    (sTangled : PySem.W.subIn K (.ref CU) (.ref CTangled) = some false)
    (aBreaks : PySem.W.nsIn K mainGlobals "Breaks" = some (some (.ref CBreaks)))
    (bBreaks : PySem.W.subIn K (.ref CBreaks) (.type "BaseException") = some true)
    (hBreaks : PySem.W.hasDictIn K CBreaks = true)
    (tBreaks : PySem.W.typeIn K (.ref CBreaks) = some (.type "type"))
    (sBreaks : PySem.W.subIn K (.ref CU) (.ref CBreaks) = some false)
    (aInUse : PySem.W.nsIn K mainGlobals "InUse" = some (some (.ref CInUse)))
    (bInUse : PySem.W.subIn K (.ref CInUse) (.type "BaseException") = some true)
    (hInUse : PySem.W.hasDictIn K CInUse = true)
    (tInUse : PySem.W.typeIn K (.ref CInUse) = some (.type "type"))
    (sInUse : PySem.W.subIn K (.ref CU) (.ref CInUse) = some false) : Nonempty (Exx K mg) := by
  have kwq : ∀ q ∈ [(("many" : Str), V.int 0), ("base", .int 2)], ∃ u, PySem.W.nsIn K kD q.1 = some (some u) ∧ RelV q.2 u := fun q hq => by
    rcases List.mem_cons.mp hq with rfl | hq
    · exact ⟨_, km, _, rfl⟩
    · rw [List.mem_singleton.mp hq]
      exact ⟨_, kb, _, rfl⟩
  exact ⟨{ CU := CU, gU := PySem.W.mg_of X G aU, CF := CF, gF := PySem.W.mg_of X G aF, CR := CR, gR := PySem.W.mg_of X G aR, CM := CM, gM := PySem.W.mg_of X G aM, oU := ⟨⟨_, _, _, _, _, _, _, _, _, _, _, _, _, _, _, xU, rU⟩, saU, eU, tU, kU⟩, wU := wU, nU := nU, xU := ⟨gaU, ggU, eU, hdU⟩, eU := ⟨gaU, ggU, eU, hdU, gcU, oc, ot, moU⟩, fU := fU, dU := _, FU := ⟨⟨_, _, _, _, _, _, _, _, _, _, rfl, lU, cU, .inl ⟨rfl, rfl⟩, .inl rfl⟩, kfU⟩, iU := iU, tU := tiU, fF := fF, dF := _, FF := ⟨⟨_, _, _, _, _, _, _, _, _, _, rfl, lF, cF, .inr ⟨by simp, _, _, _, _, rfl, dtF, rfl, .cons ⟨_, rfl⟩ (.cons ⟨_, rfl⟩ .nil)⟩, .inl rfl⟩, kfF⟩, vF := fcF, cF := ⟨rdF, sgF⟩, fR := fR, dR := _, FR := ⟨⟨_, _, _, _, _, _, _, _, _, _, rfl, lR, cR, .inr ⟨by simp, _, _, _, _, rfl, dtR, rfl, .cons ⟨_, rfl⟩ (.cons ⟨_, rfl⟩ .nil)⟩, .inl rfl⟩, kfR⟩, vR := fcR, cR := ⟨rdR, sgR⟩, fG := fG, dG := _, FG := ⟨⟨_, _, _, _, _, _, _, _, _, _, rfl, lG, cG, .inl ⟨rfl, rfl⟩, .inr ⟨kD, rfl, kwq⟩⟩, kG⟩, gG := PySem.W.mg_of X G aG, mV := PySem.W.mg_none_of X G zV, vV := ve, kM := kum, kF := kuf, kV := kuv, CBadText := CBadText, gBadText := PySem.W.mg_of X G aBadText, xBadText := PySem.W.exm_ref bBadText hBadText tBadText sBadText, CBadPage := CBadPage, gBadPage := PySem.W.mg_of X G aBadPage, xBadPage := PySem.W.exm_ref bBadPage hBadPage tBadPage sBadPage, CStopped := CStopped, gStopped := PySem.W.mg_of X G aStopped, xStopped := PySem.W.exm_ref bStopped hStopped tStopped sStopped, CNoName := CNoName, gNoName := PySem.W.mg_of X G aNoName, xNoName := PySem.W.exm_ref bNoName hNoName tNoName sNoName, CTwice := CTwice, gTwice := PySem.W.mg_of X G aTwice, xTwice := PySem.W.exm_ref bTwice hTwice tTwice sTwice, CNoPlan := CNoPlan, gNoPlan := PySem.W.mg_of X G aNoPlan, xNoPlan := PySem.W.exm_ref bNoPlan hNoPlan tNoPlan sNoPlan, CNoLabel := CNoLabel, gNoLabel := PySem.W.mg_of X G aNoLabel, xNoLabel := PySem.W.exm_ref bNoLabel hNoLabel tNoLabel sNoLabel, CTaken := CTaken, gTaken := PySem.W.mg_of X G aTaken, xTaken := PySem.W.exm_ref bTaken hTaken tTaken sTaken, CRing := CRing, gRing := PySem.W.mg_of X G aRing, xRing := PySem.W.exm_ref bRing hRing tRing sRing, CNotPlain := CNotPlain, gNotPlain := PySem.W.mg_of X G aNotPlain, xNotPlain := PySem.W.exm_ref bNotPlain hNotPlain tNotPlain sNotPlain, CTangled := CTangled, gTangled := PySem.W.mg_of X G aTangled, xTangled := PySem.W.exm_ref bTangled hTangled tTangled sTangled, CBreaks := CBreaks, gBreaks := PySem.W.mg_of X G aBreaks, xBreaks := PySem.W.exm_ref bBreaks hBreaks tBreaks sBreaks, CInUse := CInUse, gInUse := PySem.W.mg_of X G aInUse, xInUse := PySem.W.exm_ref bInUse hInUse tInUse sInUse, xU2 := PySem.W.exm_ref eU hdU tU uu }⟩
theorem codeHd_of {K : PySem.W.Frag} {h : Heap} (X : K.In h) {c P : Addr} {dd : Option Addr} {vs : Array Value} {sl : Array (Option Value)} (l : K.lookup c = some ⟨.type "code", dd, .fields vs, sl⟩) (h11 : vs[11]? = some (.ref P)) (g11 : vs.getD 11 .none = .ref P)
    {fl : Str} {tf tg tt : Tok} {flags tx : Int} {inF : Bool} (h18 : vs.getD 18 .none = .str fl tf) (h7 : vs.getD 7 .none = .int flags tg) (h9 : vs.getD 9 .none = .bool inF) (h10 : vs.getD 10 .none = .int tx tt) (ne : c ≠ P) : PySem.W.CodeHd h c P :=
  ⟨_, vs, fl, tf, flags, tg, inF, tx, tt, X _ _ l, rfl, rfl, h11, g11, h18, h7, h9, h10, ne⟩
end
end K14

set_option Elab.async false
set_option linter.all false
set_option maxRecDepth 100000
set_option maxHeartbeats 4000000
namespace K14
open PySem PySem.Spec PyProof.Rows L2 OG
open C8 (pss_cut pe_gc)
open OGX

section
variable {P : Program} {w : World} {K : PySem.W.Frag} {mg : Str → Option Value} {base : Heap}
def lamQ : Str := (envOfC "law" (defScope slaw) 0 0 .none).qual ++ "<lambda>"
def spLawT (K : PySem.W.Frag) (PL : Addr) : Sp := fun vs H Q _ => ∃ (a : Addr) (ns : List Int), vs = [.ref a] ∧ SqL K H a (ns.map V.int) ∧ ns.length ≤ 63 ∧ H PL = some (.tbl #[]) ∧ ∀ H', Q (.bl true) H'
theorem eq3_of {K : PySem.W.Frag} {H : Hp} : ∀ {n : Nat} {v w : V}, Eq2 H n v w → Eq3 K H n v w
  | 0, _, _, h => h
  | n + 1, v, w, h => by
    rcases h with h | ⟨a, b, vs, ws, e1, e2, h, hl, hz, q⟩
    · exact .inl h
    · refine .inr ⟨a, b, vs, ws, e1, e2, ?_, hl, hz, fun i x y hx hy => eq3_of (q i x y hx hy)⟩
      rcases h with ⟨k1, k2⟩ | ⟨k1, k2⟩
      · exact .inl ⟨SqT.of k1, SqT.of k2⟩
      · exact .inr ⟨k1, k2⟩
def Kp (d : Addr) (H H' : Hp) : Prop := ∀ b o, b ≠ d → H b = some o → H' b = some o
theorem Kp.trans {d : Addr} {H H1 H2 : Hp} (a : Kp d H H1) (b : Kp d H1 H2) : Kp d H H2 := fun x o n h => b x o n (a x o n h)
theorem Kp.same {d : Addr} {H H' : Hp} (a : Same H H') : Kp d H H' := fun x o _ h => a x o h
theorem Kp.but {d : Addr} {H H' : Hp} (a : But d H H') : Kp d H H' := fun x o n h => (a x n).trans h
theorem Kp.go {d : Addr} {H H' : Hp} (a : Go (· = d) H H') : Kp d H H' := fun x o n h => a.at h n
theorem tabs_kp {T : List (Addr × Str)} {d L : Addr} {H H' : Hp} (hD : Dr H d L) (t : LamX.Tabs T H) (k : Kp d H H') : LamX.Tabs T H' := fun p hp => by
  obtain ⟨ps, h1, h2, h3⟩ := t p hp
  obtain ⟨ns, i, r, s, hd, _⟩ := hD
  refine ⟨ps, k _ _ (fun z => by rw [z, hd] at h1; cases h1) h1, h2, fun pos cv hc => ?_⟩
  obtain ⟨c, e1, e2⟩ := h3 pos cv hc
  exact ⟨c, e1, k _ _ (fun z => by rw [z, hd] at e2; unfold LamX.CodeO at e2; cases e2) e2⟩
theorem sums_ext {H H1 : Hp} (e : LamX.ExtN H H1) {S : Addr} {rs : List OG.Row} {ls : List Addr} (h : SumsAt H S rs ls) : SumsAt H1 S rs ls := by
  have im : Imm H H1 := fun b xs hb => e b _ hb (fun ps z => by cases z)
  obtain ⟨us, h1, h2⟩ := h
  refine ⟨us, e _ _ h1 (fun ps z => by cases z), ?_⟩
  clear h1
  induction h2 with
  | nil => exact .nil
  | cons h t ih =>
    obtain ⟨a, rfl, ha, vs, hl, hr⟩ := h
    exact .cons ⟨a, rfl, im _ _ ha, vs, e _ _ hl (fun ps z => by cases z), hr.to im⟩ ih
theorem dr_ext {H H1 : Hp} (e : LamX.ExtN H H1) {d L : Addr} (h : Dr H d L) : Dr H1 d L := by
  obtain ⟨ns, i, r, s, hd, hL, q⟩ := h
  exact ⟨ns, i, r, s, e _ _ hd (fun ps z => by cases z), e _ _ hL (fun ps z => by cases z), q⟩
theorem imm_ext {H H1 : Hp} (e : LamX.ExtN H H1) : Imm H H1 := fun b xs hb => e b _ hb (fun ps z => by cases z)
theorem rows_split {H : Hp} : ∀ {us0 : List V} {u : V} {rs : List OG.Row} {ls : List Addr}, RowsAt H (us0 ++ [u]) rs ls → ∃ rs0 r ls0 l, rs = rs0 ++ [r] ∧ ls = ls0 ++ [l] ∧ RowsAt H us0 rs0 ls0 ∧ RowAt H u r l
  | [], u, _, _, .cons h .nil => ⟨[], _, [], _, rfl, rfl, .nil, h⟩
  | u0 :: us0, u, _, _, .cons h t => by
    obtain ⟨rs0, r, ls0, l, rfl, rfl, h1, h2⟩ := rows_split t
    exact ⟨_ :: rs0, r, _ :: ls0, l, rfl, rfl, .cons h h1, h2⟩
theorem rows_snoc {H : Hp} {us0 : List V} {u : V} {rs0 : List OG.Row} {r : OG.Row} {ls0 : List Addr} {l : Addr} (h : RowsAt H us0 rs0 ls0) (h2 : RowAt H u r l) : RowsAt H (us0 ++ [u]) (rs0 ++ [r]) (ls0 ++ [l]) := by
  induction h with
  | nil => exact .cons h2 .nil
  | cons h t ih => exact .cons h ih
theorem gsum_of {rs rs' : List OG.Row} (h : GSum rs) (em : rs'.map (·.1) = rs.map (·.1)) (ht : ∀ r ∈ rs', r ∈ rs ∨ r.2 = []) : GSum rs' := by
  have hl : rs'.length = rs.length := by simpa using congrArg List.length em
  refine ⟨⟨?_, by rw [em]; exact h.ok.rises, by rw [hl]; exact h.ok.short, fun r hr => ?_⟩, ?_, fun r hr => ?_⟩
  · have := h.ok.first
    rw [← List.head?_map] at this ⊢
    rw [em]
    exact this
  · rcases ht r hr with z | z
    · exact h.ok.terms r z
    · rw [z]
      exact ⟨by decide, fun t ht => by cases ht⟩
  · intro z
    rw [z] at hl
    exact h.n0 (List.eq_nil_of_length_eq_zero hl.symm)
  · rcases ht r hr with z | z
    · exact h.falls r z
    · rw [z]
      exact .nil
theorem cut_last (us0 : List V) (u : V) : cutV (us0 ++ [u]) none (some (-1)) = us0 := by
  have e : HT.sIx (us0 ++ [u]).length (us0 ++ [u]).length (some (-1)) = us0.length := by
    rw [List.length_append]
    unfold HT.sIx
    simp
    all_goals omega
  unfold cutV
  rw [e]
  show ((us0 ++ [u]).drop 0).take (us0.length - 0) = us0
  simp
def encF : Res → D
  | .un => .tup [.str "Uneven", .str ""]
  | g => .tup [.str "told", encRes g]
structure Mid (H : Hp) (d L : Addr) (T : List (Addr × Str)) (S : Addr) (rs : List OG.Row) (ls : List Addr) : Prop where
  sums : SumsAt H S rs ls
  ok : GSum rs
  nS : S ≠ d
  nl : ∀ l ∈ ls, l ≠ d
  dr : Dr H d L
  tab : LamX.Tabs T H
theorem Mid.same {H H' : Hp} {d L : Addr} {T : List (Addr × Str)} {S : Addr} {rs : List OG.Row} {ls : List Addr} (h : Mid H d L T S rs ls) (s : Same H H') : Mid H' d L T S rs ls :=
  ⟨h.sums.same s, h.ok, h.nS, h.nl, h.dr.same s, h.tab.ext fun b o e => s b o e⟩
theorem Mid.take {H H' : Hp} {d L : Addr} {T : List (Addr × Str)} {S : Addr} {rs : List OG.Row} {ls : List Addr} (h : Mid H d L T S rs ls) (hD : Dr H' d L) (b : But d H H') : Mid H' d L T S rs ls := by
  have g : Go (· = d) H H' := Go.but h.dr b rfl
  exact ⟨h.sums.go g h.nS h.nl, h.ok, h.nS, h.nl, hD, tabs_kp h.dr h.tab (Kp.but b)⟩
theorem encF_told {g : Res} (h : g ≠ .un) : encF g = .tup [.str "told", encRes g] := by
  cases g with
  | un => exact absurd rfl h
  | no => rfl
  | gr x y z => rfl
theorem grow_zero (rs : List OG.Row) (b : Int) : grow rs 0 b ≠ .un := by
  unfold grow
  split
  · rw [if_pos (.inl rfl)]
    exact fun z => by cases z
  · rw [if_pos (.inl rfl)]
    exact fun z => by cases z
theorem enc_fit (g : Res) : depD (encRes g) ≤ 20 ∧ fitD (encRes g) ∧ depD (encF g) ≤ 20 ∧ fitD (encF g) := by
  cases g <;> simp [encRes, encF, depD, depL, fitD, fitL]
theorem enc_uneven (g : Res) : PyData.eqv (toPy (encRes g)) (.str "uneven") = (match g with | .un => true | _ => false) ∧ SeqAt.shaped (toPy (encRes g)) = true := by
  cases g with
  | un => exact ⟨by decide +kernel, by decide +kernel⟩
  | no => exact ⟨by decide +kernel, rfl⟩
  | gr x y z => exact ⟨by simp [encRes, toPy, PyData.eqv], rfl⟩
theorem ok_lawT (T : Tops K mg) (X : Exx K mg) {cL PL : Addr} (hcode : T.dlaw.code = .ref cL) (TB : LamX.TabB base mg cL PL) : FnOk P w K mg base C8.CX0 40 T.flaw T.dlaw ["_law_script"] (spLawT K PL) := by
  have Gl_begin : FnOk P w K mg base CX0 1 T.fl_begin T.dl_begin ["_law_script"] (spBegin K) := ok_begin T
  have Gl_take : FnOk P w K mg base CX0 1 T.fl_take T.dl_take ["_law_draw", "_law_sides"] spTakeW := ok_takeW T
  have Gl_same : FnOk P w K mg base CX0 21 T.fl_same T.dl_same ["_law_found", "_law_due"] (spSame3 K 20) := ok_same T 20
  have Gl_plus_sums : FnOk P w K mg base CX0 5 T.fl_plus_sums T.dl_plus_sums ["_law_draw", "_law_top", "_law_deep", "_law_wide"] spPlus := ok_plus T
  have Gl_due_growth : FnOk P w K mg base CX0 4 T.fl_due_growth T.dl_due_growth ["_law_sums", "_law_often", "_law_by_it"] spDue := ok_due T
  have Ggrowth : FnOk P w K mg base (L2.CX P w) 7 X.fG X.dG ["sums", "many", "base"] (spGrowth X.CU) := ok_growth T X
  have GC : FnX P w K mg base 1 T.fl_class T.dl_class ["_law_e"] (spClass X.CU) := ok_class T X
  obtain ⟨ds, hds, hbG⟩ := X.bG
  obtain ⟨ub, rub, hbG1⟩ := X.bG1
  obtain ⟨ocT, odT, kVT, docT, pmT, anT, cdT, ctT, oslT, eT, lkT, hcdT⟩ := T.Fl_tried.ex
  have hbT := T.bl_tried
  rw [eT] at lkT hbT
  obtain ⟨oc, od, kV, doc, pm, an, cdv, ct, osl, e, lk, hcd⟩ := T.Flaw.ex
  rw [e] at lk hcode ⊢
  have ec : cdv = .ref cL := hcode
  subst ec
  refine fn_of (k := 39) lk hcd sclaw (fun vs H Q E h => ?_) (fun A outer s H vs Q E hr h => ?_)
  · obtain ⟨a, ns, rfl, _⟩ := h
    rfl
  obtain ⟨a, ns, rfl, hS, hlen, hPL, q⟩ := h
  suffices hh : ∃ t, PSs (cxOf C8.CX0 P w K mg base Nlaw "law" (defScope slaw) T.flaw (.ref cL) A outer s H E).nox (defBody slaw) t ∧ t { nx := fun _ H' => Q .non H', rt := Q } (L2.start Nlaw [.ref a]) H by
    obtain ⟨t, ht, hq⟩ := hh
    exact ⟨t, ht.nox, hq⟩
  refine ⟨_, (pss_cons (ps_set (i := 1) sclaw.nd rfl (Or.inl rfl) (pe_call Gl_begin (hr.mono (by omega)) (by rfl) T.gl_begin T.Fl_begin.kp T.bl_begin .nil pass0 (pa_cons (pv 0) pa_nil)))
 (pss_cons (ps_for PassesOwn.never rfl (pi_range1 (by rfl) T.mrange (pa_cons pe_int pa_nil)) (pg_name (i := 2) sclaw.nd rfl (Or.inl rfl))
  (pss_cons (ps_set (i := 3) sclaw.nd rfl (Or.inr rfl) (pe_call Gl_plus_sums (hr.mono (by omega)) (by rfl) T.gl_plus_sums T.Fl_plus_sums.kp T.bl_plus_sums .nil pass0 (pa_cons (pv 1) (pa_cons (pe_ix ix_list (pe_lst (pa_cons pe_int (pa_cons pe_int (pa_cons pe_int (pa_cons pe_int pa_nil))))) (pe_call Gl_take (hr.mono (by omega)) (by rfl) T.gl_take T.Fl_take.kp T.bl_take .nil pass0 (pa_cons (pv 1) (pa_cons pe_int pa_nil))) (fun _ _ => rfl)) (pa_cons (pe_ix ix_list (pe_lst (pa_cons pe_int (pa_cons pe_int pa_nil))) (pe_call Gl_take (hr.mono (by omega)) (by rfl) T.gl_take T.Fl_take.kp T.bl_take .nil pass0 (pa_cons (pv 1) (pa_cons pe_int pa_nil))) (fun _ _ => rfl)) (pa_cons pe_int pa_nil))))))
 (pss_cut (ps_if (pt_cmpR op_eq (pe_call Gl_take (hr.mono (by omega)) (by rfl) T.gl_take T.Fl_take.kp T.bl_take .nil pass0 (pa_cons (pv 1) (pa_cons pe_int pa_nil))) pe_int (nomark _))
  (pss_one (ps_set (i := 3) sclaw.nd rfl (Or.inr rfl) (pe_op op_cat (pe_slice sl_list (pv 3) po_none (po_some (pe_un un_neg pe_int))) (pe_lst (pa_cons (pe_tup (pa_cons (pe_ix ix_tup (pe_ix ix_list (pv 3) (pe_un un_neg pe_int) (fun _ _ => rfl)) pe_int (fun _ _ => rfl)) (pa_cons (pe_lst pa_nil) pa_nil))) pa_nil)))))
  pss_nil)
 (pss_cut (ps_if (pt_cmpR op_eq (pe_call Gl_take (hr.mono (by omega)) (by rfl) T.gl_take T.Fl_take.kp T.bl_take .nil pass0 (pa_cons (pv 1) (pa_cons pe_int pa_nil))) pe_int (nomark _))
  (pss_one (ps_set (i := 3) sclaw.nd rfl (Or.inr rfl) (pe_lc (own := [("_law_since", 8), ("_law_terms_here", 9)]) rfl sclaw.nd (pi_list (pv 3)) (blkOk_by (N := Nlaw) (sc := defScope slaw) (by decide +kernel)) (fun _ _ _ _ _ => (pg_tupK (K := K) (n := 2) rfl rfl (pgs_cons (pg_name (i := 8) sclaw.nd rfl (Or.inl rfl)) (pgs_cons (pg_name (i := 9) sclaw.nd rfl (Or.inl rfl)) pgs_nil)))) (fun _ _ _ _ _ => pts_nil) (fun _ _ _ _ _ => (pe_tup (pa_cons (pv 8) (pa_cons (pe_lst pa_nil) pa_nil)))))))
  pss_nil)
 (pss_cons (ps_asg (pe_tup (pa_cons (pe_call Gl_take (hr.mono (by omega)) (by rfl) T.gl_take T.Fl_take.kp T.bl_take .nil pass0 (pa_cons (pv 1) (pa_cons pe_int pa_nil))) (pa_cons (pe_op op_add pe_int (pe_call Gl_take (hr.mono (by omega)) (by rfl) T.gl_take T.Fl_take.kp T.bl_take .nil pass0 (pa_cons (pv 1) (pa_cons pe_int pa_nil)))) pa_nil))) (pg_tup rfl (pgs_cons (pg_name (i := 6) sclaw.nd rfl (Or.inr rfl)) (pgs_cons (pg_name (i := 7) sclaw.nd rfl (Or.inr rfl)) pgs_nil))))
 (pss_cons (ps_set (i := 4) sclaw.nd rfl (Or.inl rfl) (pe_call Gl_due_growth (hr.mono (by omega)) (by rfl) T.gl_due_growth T.Fl_due_growth.kp T.bl_due_growth .nil pass0 (pa_cons (pv 3) (pa_cons (pv 6) (pa_cons (pv 7) pa_nil)))))
 (pss_cut (ps_set (i := 5) sclaw.nd rfl (Or.inl rfl) (LamX.pe_lamcall (k := 20) (T := [(PL, lamQ)]) (TT := TTried X.CU) (by rfl) T.gl_tried T.Fl_tried.kp lkT hcdT hbT scl_tried rfl (Or.inl rfl) (tried_gives (Y := (cxOf C8.CX0 P w K mg base Nlaw "law" (defScope slaw) T.flaw (.ref cL) A outer s H E).nox) (k := 20) T X GC (hr.mono (by omega))) TB rfl List.mem_cons_self (fun p hp _ => by rw [List.mem_singleton.mp hp]; rfl) (hr.mono (by omega)) (LamX.lamS_by (sc := defScope slaw) (by rfl)) rfl (fun _ _ _ _ _ => rfl) (fun A1 o1 s1 H1 E1 f1 c1 hr1 => pe_callN Ggrowth (hr1.mono (by omega)) (by rfl) X.gG X.FG.kp X.bG2 (passes_call (takes_of rfl rfl rfl rfl) (fun _ _ _ _ h => h)) (pa_cons (pv 3) pa_nil) (pk_cons (pv 7) (pk_cons (pv 6) pk_nil)))))
 (pss_cut (ps_if (pt_not (pt_val (pe_call Gl_same (hr.mono (by omega)) (by rfl) T.gl_same T.Fl_same.kp T.bl_same .nil pass0 (pa_cons (pv 5) (pa_cons (pe_ifExp (pt_cmpR (op_eqD hr.units) (pv 4) pe_str (nomark _)) (pe_tup (pa_cons pe_str (pa_cons pe_str pa_nil))) (pe_tup (pa_cons pe_str (pa_cons (pv 4) pa_nil)))) pa_nil)))))
  (pss_one (ps_ret pe_bl))
  pss_nil)
 (pss_cons (ps_if (pt_not (pt_val (pe_call Gl_same (hr.mono (by omega)) (by rfl) T.gl_same T.Fl_same.kp T.bl_same .nil pass0 (pa_cons (pe_call Ggrowth (hr.mono (by omega)) (by rfl) X.gG X.FG.kp hbG hds passL (pa_cons (pv 3) pa_nil)) (pa_cons (pe_call Gl_due_growth (hr.mono (by omega)) (by rfl) T.gl_due_growth T.Fl_due_growth.kp T.bl_due_growth .nil pass0 (pa_cons (pv 3) (pa_cons pe_int (pa_cons pe_int pa_nil)))) pa_nil)))))
  (pss_one (ps_ret pe_bl))
  pss_nil)
 (pss_one (ps_if (PW.pt (pw_and (pt_cmpR op_gt (pv 6) pe_int (nomark _)) (pw_and1 (pt_cmpR (op_neD hr.units) (pe_call Gl_due_growth (hr.mono (by omega)) (by rfl) T.gl_due_growth T.Fl_due_growth.kp T.bl_due_growth .nil pass0 (pa_cons (pv 3) (pa_cons (pv 6) (pa_cons pe_int pa_nil)))) pe_str (nomark _)))))
  (pss_one (ps_if (pt_not (pt_val (pe_call Gl_same (hr.mono (by omega)) (by rfl) T.gl_same T.Fl_same.kp T.bl_same .nil pass0 (pa_cons (pe_callN Ggrowth (hr.mono (by omega)) (by rfl) X.gG X.FG.kp hbG1 passL (pa_cons (pv 3) pa_nil) (pk_cons (pv 6) pk_nil)) (pa_cons (pe_call Gl_due_growth (hr.mono (by omega)) (by rfl) T.gl_due_growth T.Fl_due_growth.kp T.bl_due_growth .nil pass0 (pa_cons (pv 3) (pa_cons (pv 6) (pa_cons pe_int pa_nil)))) pa_nil)))))
  (pss_one (ps_ret pe_bl))
  pss_nil))
  pss_nil)))))))))))
 (pss_one (ps_ret pe_bl)))), ?_⟩
  refine ⟨_, rfl, a, ns, rfl, hS, fun d L H1 sm nd nL hD => ?_⟩
  have hT1 : LamX.Tabs [(PL, lamQ)] H1 := fun p hp => by
    rw [List.mem_singleton.mp hp]
    exact LamX.TabS.nil (sm _ _ hPL)
  refine ⟨8, rfl, by decide, by decide, ?_⟩
  refine for_range (n := 8) (fun i σ H' => (∃ x2 x3 x4 x5 x6 x7 x8 x9, σ = [some (.ref a), some (.ref d), x2, x3, x4, x5, x6, x7, x8, x9]) ∧ Dr H' d L ∧ LamX.Tabs [(PL, lamQ)] H') ⟨⟨_, _, _, _, _, _, _, _, rfl⟩, hD, hT1⟩ (fun i σ H2 hi hP => ?_) (fun σ H2 hP => ?_)
  · obtain ⟨⟨x2, x3, x4, x5, x6, x7, x8, x9, rfl⟩, hD2, hT2⟩ := hP
    refine ⟨_, rfl, (by show 4 ≤ sizeLine; decide), fun l1 nl1 => ?_⟩
    refine ⟨_, rfl, d, L, 4, rfl, hD2.new nl1, by decide, by decide, fun g1 H3 a3 b3 hD3 hB3 => ?_⟩
    have hl1 : H3 l1 = some (.lst [.int 1, .int 2, .int 3, .int 9]) := by
      rw [hB3 l1 (hD2.neNew nl1).1]
      exact upd_same
    obtain ⟨v3, hv3, hm3⟩ := atI_lt (xs := [V.int 1, .int 2, .int 3, .int 9]) a3 b3
    obtain ⟨m3, rfl, m30, m39⟩ : ∃ m3 : Int, v3 = .int m3 ∧ 0 ≤ m3 ∧ m3 ≤ 9 := by
      simp at hm3
      rcases hm3 with rfl | rfl | rfl | rfl <;> exact ⟨_, rfl, by decide, by decide⟩
    refine ⟨l1, _, g1, _, rfl, rfl, SqL.of hl1, hv3, ?_⟩
    refine ⟨(by show 2 ≤ sizeLine; decide), fun l nl => ?_⟩
    refine ⟨_, rfl, d, L, 2, rfl, hD3.new nl, by decide, by decide, fun g H4 g0 g4 hD4 hB4 => ?_⟩
    have hl : H4 l = some (.lst [.int 0, .int 3]) := by
      rw [hB4 l (hD3.neNew nl).1]
      exact upd_same
    obtain ⟨v, hv, hm⟩ := atI_lt (xs := [V.int 0, .int 3]) g0 g4
    obtain ⟨m, rfl, mm0, mm9⟩ : ∃ m : Int, v = .int m ∧ 0 ≤ m ∧ m ≤ 9 := by
      simp at hm
      rcases hm with rfl | rfl <;> exact ⟨_, rfl, by decide, by decide⟩
    refine ⟨l, _, g, _, rfl, rfl, SqL.of hl, hv, ?_⟩
    refine ⟨d, L, m3, m, 20, rfl, hD4, m30, m39, mm0, mm9, by decide, by decide, fun S rs ls H5 nSd hls hSm hgs hD5 G5 => ?_⟩
    have k25 : Kp d H2 H5 := ((((Kp.same (same_new nl1)).trans (Kp.but hB3)).trans (Kp.same (same_new nl))).trans (Kp.but hB4)).trans (Kp.go G5)
    have M5 : Mid H5 d L [(PL, lamQ)] S rs ls := ⟨hSm, hgs, nSd, hls, hD5, tabs_kp hD2 hT2 k25⟩
    -- the last row emptied
    refine ⟨fun σ' H' => ∃ S rs ls x2 x4 x5 x6 x7 x8 x9, σ' = [some (.ref a), some (.ref d), x2, some (.ref S), x4, x5, x6, x7, x8, x9] ∧ Mid H' d L [(PL, lamQ)] S rs ls, ?_, ?_⟩
    · refine ⟨_, rfl, d, L, 3, rfl, hD5, by decide, by decide, fun t1 H6 _ _ hD6 hB6 => ?_⟩
      have M6 := M5.take hD6 hB6
      refine ⟨rfl, _, rfl, ite2 (fun c => ?_) (fun c => ?_)⟩
      · obtain ⟨us, hSl, hRs⟩ := id M6.sums
        obtain ⟨us0, bl, lz, r, vs, rfl, hrm, hlast, hbl, hlz, hvz, _⟩ := last_row hRs M6.ok.n0
        obtain ⟨rs0, r1, ls0, l1', ers, els, hR0, hR1⟩ := rows_split hRs
        dsimp only [tNoPart]
        refine ⟨_, rfl, 1, rfl, -1, rfl, S, _, rfl, SqL.of hSl, fun p np => ?_⟩
        obtain ⟨bl', ebl, hbt, _⟩ := hR1
        cases ebl
        have sp : Same H6 (upd H6 p (.lst (cutV (us0 ++ [.ref bl]) none (some (-1))))) := same_new np
        refine ⟨_, rfl, 1, rfl, S, _, -1, _, rfl, rfl, SqL.of (sp _ _ hSl), atI_last us0 (.ref bl), bl, _, 0, _, rfl, rfl, SqT.of (sp _ _ hbt), rfl, (by show 0 ≤ sizeLine; decide), fun e1 ne1 => ?_⟩
        refine ⟨(by show 2 ≤ sizeLine; decide), fun t1 nt1 => ⟨(by show 1 ≤ sizeLine; decide), fun e2 ne2 => ?_⟩⟩
        have s1 := same_new (o := .lst []) ne1
        have s2 := same_new (o := .tup [.int r1.1, .ref e1]) nt1
        have s3 := same_new (o := .lst [.ref t1]) ne2
        have hpc := (s1.trans (s2.trans s3)) _ _ (upd_same (H := H6) (a := p) (o := .lst (cutV (us0 ++ [.ref bl]) none (some (-1)))))
        have lus := hRs.len.1
        have lrs := M6.ok.ok.short
        refine ⟨p, e2, us0, [.ref t1], rfl, rfl, hpc.trans (by rw [cut_last]), upd_same, ?_, fun z nz => ?_⟩
        · rw [List.length_append] at lus
          show us0.length + 1 ≤ sizeLine
          have : us0.length + 1 ≤ 8 := by
            have e : [V.ref bl].length = 1 := rfl
            omega
          exact sz (by omega)
        have s4 := same_new (o := .lst (us0 ++ [.ref t1])) nz
        have sA := (sp.trans (s1.trans (s2.trans s3))).trans s4
        have M7 := M6.same sA
        have hdd := M6.dr.some
        obtain ⟨od, hod⟩ := hdd
        have nzd : z ≠ d := (ne_of_none ((sp.trans (s1.trans (s2.trans s3))) _ _ hod) nz).symm
        have ned : e1 ≠ d := (ne_of_none (sp _ _ hod) ne1).symm
        refine ⟨z, rs0 ++ [(r1.1, [])], ls0 ++ [e1], _, _, _, _, _, _, _, rfl, ⟨⟨us0 ++ [.ref t1], upd_same, rows_snoc (hR0.same sA) ⟨t1, rfl, (s3.trans s4) _ _ upd_same, [], (s2.trans (s3.trans s4)) _ _ upd_same, rfl⟩⟩, ?_, nzd, ?_, M7.dr, M7.tab⟩⟩
        · refine gsum_of M6.ok ?_ fun r hr => ?_
          · rw [ers, List.map_append, List.map_append]
            rfl
          · rcases List.mem_append.mp hr with h | h
            · exact .inl (by rw [ers]; exact List.mem_append_left _ h)
            · exact .inr (by rw [List.mem_singleton.mp h])
        · intro x hx
          rcases List.mem_append.mp hx with h | h
          · exact M6.nl x (by rw [els]; exact List.mem_append_left _ h)
          · rw [List.mem_singleton.mp h]
            exact ned
      · exact ⟨S, rs, ls, _, _, _, _, _, _, _, rfl, M6⟩
    rintro σ' H6 ⟨S, rs, ls, x2, x4, x5, x6, x7, x8, x9, rfl, M6⟩
    -- all rows emptied
    refine ⟨fun σ' H' => ∃ S rs ls x2 x4 x5 x6 x7 x8 x9, σ' = [some (.ref a), some (.ref d), x2, some (.ref S), x4, x5, x6, x7, x8, x9] ∧ Mid H' d L [(PL, lamQ)] S rs ls, ?_, ?_⟩
    · refine ⟨_, rfl, d, L, 9, rfl, M6.dr, by decide, by decide, fun t1 H7 _ _ hD7 hB7 => ?_⟩
      have M7 := M6.take hD7 hB7
      refine ⟨rfl, _, rfl, ite2 (fun c => ?_) (fun c => ?_)⟩
      · obtain ⟨us, hSl, hRs⟩ := id M7.sums
        have lus := hRs.len
        have lrs := M7.ok.ok.short
        refine ⟨_, rfl, S, rfl, ⟨_, SqL.of hSl⟩, fun D nD => ?_⟩
        obtain ⟨od, hod⟩ := M7.dr.some
        refine lc_grow (K := K) (fun j v Hx => ∃ r l, rs[j]? = some r ∧ RowAt Hx v (r.1, []) l ∧ (l ≠ D ∧ l ≠ d)) (fun i v Ha Hb la hla hh k => ?_) (by omega) hSl nD (fun i x H8 Nx hx s8 hD8 k8 => ?_) (fun H8 ys s8 hD8 hlen hys => ?_)
        · obtain ⟨r, l, h1, ⟨a', rfl, ha, us', hu, hr'⟩, n1, n2⟩ := hh
          have im := imm_but hla k
          exact ⟨r, l, h1, ⟨a', rfl, im _ _ ha, us', k l _ n1 hu, hr'.to im⟩, n1, n2⟩
        · obtain ⟨r, l0, hr0, _, b', rfl, hb', _⟩ := (hRs.same s8).get hx
          obtain ⟨acc, hD8⟩ := hD8
          refine ⟨b', _, rfl, SqT.of hb', rfl, _, _, rfl, _, _, rfl, rfl, rfl, ?_⟩
          refine ⟨_, rfl, (by show 0 ≤ sizeLine; decide), fun e1 ne1 => ⟨(by show 2 ≤ sizeLine; decide), fun t1 nt1 => ?_⟩⟩
          have s1 := same_new (o := .lst []) ne1
          have s2 := same_new (o := .tup [.int r.1, .ref e1]) nt1
          exact k8 _ _ (s1.trans s2) ⟨r, e1, hr0, ⟨t1, rfl, upd_same, [], s2 _ _ upd_same, rfl⟩, (ne_of_none hD8 ne1).symm, (ne_of_none (s8 _ _ hod) ne1).symm⟩
        · obtain ⟨ls', hrows, hn⟩ := rows_at (C := fun l => l ≠ D ∧ l ≠ d) (f := fun r => (r.1, [])) (ys := ys) (rs := rs) (by rw [hlen, lus.1]) hys
          have M8 := M7.same s8
          refine ⟨D, rs.map fun r => (r.1, []), ls', _, _, _, _, _, _, _, rfl, ⟨⟨ys, hD8, hrows⟩, ?_, (ne_of_none hod nD).symm, fun l hl => (hn l hl).2, M8.dr, M8.tab⟩⟩
          refine gsum_of M7.ok (by rw [List.map_map]; rfl) fun r hr => .inr ?_
          obtain ⟨r0, _, rfl⟩ := List.mem_map.mp hr
          rfl
      · exact ⟨S, rs, ls, _, _, _, _, _, _, _, rfl, M7⟩
    rintro σ' H7 ⟨S, rs, ls, x2, x4, x5, x6, x7, x8, x9, rfl, M7⟩
    -- the numbers
    refine ⟨_, rfl, d, L, 10, rfl, M7.dr, by decide, by decide, fun m H8 m0 m10 hD8 hB8 => ?_⟩
    have M8 := M7.take hD8 hB8
    refine ⟨_, rfl, d, L, 2, rfl, M8.dr, by decide, by decide, fun b0 H9 b00 b02 hD9 hB9 => ?_⟩
    have M9 := M8.take hD9 hB9
    refine ⟨2, b0, rfl, rfl, (by show 2 ≤ sizeLine; decide), fun pt npt => ?_⟩
    have M10 := M9.same (same_new (o := .tup [.int m, .int (2 + b0)]) npt)
    refine ⟨pt, _, rfl, SqT.of upd_same, rfl, _, _, rfl, _, _, rfl, rfl, ?_⟩
    refine ⟨_, rfl, _, rfl, _, rfl, S, rs, ls, m, 2 + b0, rfl, M10.sums, M10.ok, m0, by omega, by omega, fun vd H11 s11 hvd => ?_⟩
    have M11 := M10.same s11
    refine ⟨fun σ' H' => ∃ x2 vd vf x8 x9, σ' = [some (.ref a), some (.ref d), x2, some (.ref S), some vd, some vf, some (.int m), some (.int (2 + b0)), x8, x9] ∧ Rp H' vd (encRes (grow rs m (2 + b0))) ∧ Rp H' vf (encF (grow rs m (2 + b0))) ∧ Mid H' d L [(PL, lamQ)] S rs ls, ?_, ?_⟩
    · refine ⟨M11.tab, fun H12 eN T12 => ?_⟩
      have M12 : Mid H12 d L [(PL, lamQ)] S rs ls := ⟨sums_ext eN M11.sums, M11.ok, M11.nS, M11.nl, dr_ext eN M11.dr, T12⟩
      have hvd2 := hvd.to (imm_ext eN)
      refine ⟨_, rfl, _, rfl, _, rfl, rfl, rfl, S, rs, ls, m, 2 + b0, rfl, M12.sums, M12.ok, m0, by omega, by omega, fun hne v H13 s13 hv => ⟨by decide, fun p np => ?_⟩, fun hun dd H13 s13 nd hdd => ⟨rfl, dd, rfl, hdd, fun p np => ?_⟩⟩
      · have s14 := same_new (o := .tup [.str "told", v]) np
        refine ⟨_, vd, .ref p, _, _, rfl, hvd2.to (Imm.same (s13.trans s14)), ?_, M12.same (s13.trans s14)⟩
        rw [encF_told hne]
        exact rp_tup upd_same (rpl_cons rfl (rpl_cons (hv.to (Imm.same s14)) rpl_nil))
      · have s14 := same_new (o := .tup [.str "Uneven", .str ""]) np
        refine ⟨_, vd, .ref p, _, _, rfl, hvd2.to (Imm.same (s13.trans s14)), ?_, M12.same (s13.trans s14)⟩
        rw [hun]
        exact rp_tup upd_same (rpl_cons rfl (rpl_cons rfl rpl_nil))
    rintro σ' H13 ⟨x2, vd, vf, x8, x9, rfl, hvd, hvf, M13⟩
    refine ⟨fun σ' H' => ∃ x2 x4 x5 x8 x9, σ' = [some (.ref a), some (.ref d), x2, some (.ref S), x4, x5, some (.int m), some (.int (2 + b0)), x8, x9] ∧ Mid H' d L [(PL, lamQ)] S rs ls, ?_, ?_⟩
    · have hfit := enc_fit (grow rs m (2 + b0))
      have hune := enc_uneven (grow rs m (2 + b0))
      refine ⟨_, rfl, _, rfl, _, _, rp_dp _ vd hvd, .str _, hune.2, by decide +kernel, ?_⟩
      rw [hune.1]
      have fin : ∀ (p : Addr) (xs : List V), H13 p = none → Rp (upd H13 p (.tup xs)) (.ref p) (encF (grow rs m (2 + b0))) → ∃ v w : V, [vf, .ref p] = [v, w] ∧ Eq3 K (upd H13 p (.tup xs)) 20 v w := fun p xs np hR =>
        ⟨vf, .ref p, rfl, eq3_of (eq2_of 20 _ _ _ (hvf.to (Imm.same (same_new np))) hR hfit.2.2.1 hfit.2.2.2)⟩
      cases hg : grow rs m (2 + b0) with
      | un =>
        rw [hg] at fin
        refine ⟨_, rfl, ite2 (fun _ => ?_) (fun z => absurd rfl z)⟩
        refine ⟨(by show 2 ≤ sizeLine; decide), fun p np => ?_⟩
        obtain ⟨v, w', e, h3⟩ := fin p [.str "Uneven", .str ""] np (rp_tup upd_same (rpl_cons rfl (rpl_cons rfl rpl_nil)))
        exact ⟨v, w', e, h3, fun H14 s14 => ⟨true, rfl, iteF ⟨_, _, _, _, _, rfl, M13.same ((same_new np).trans s14)⟩⟩⟩
      | no =>
        rw [hg] at fin hvd
        refine ⟨_, rfl, ite2 (fun z => absurd z (by decide)) (fun _ => ?_)⟩
        refine ⟨_, rfl, (by show 2 ≤ sizeLine; decide), fun p np => ?_⟩
        obtain ⟨v, w', e, h3⟩ := fin p [.str "told", vd] np (rp_tup upd_same (rpl_cons rfl (rpl_cons (hvd.to (Imm.same (same_new np))) rpl_nil)))
        exact ⟨v, w', e, h3, fun H14 s14 => ⟨true, rfl, iteF ⟨_, _, _, _, _, rfl, M13.same ((same_new np).trans s14)⟩⟩⟩
      | gr gx gy gz =>
        rw [hg] at fin hvd
        refine ⟨_, rfl, ite2 (fun z => Bool.noConfusion (show false = true from z)) (fun _ => ?_)⟩
        refine ⟨_, rfl, (by show 2 ≤ sizeLine; decide), fun p np => ?_⟩
        obtain ⟨v, w', e, h3⟩ := fin p [.str "told", vd] np (rp_tup upd_same (rpl_cons rfl (rpl_cons (hvd.to (Imm.same (same_new np))) rpl_nil)))
        exact ⟨v, w', e, h3, fun H14 s14 => ⟨true, rfl, iteF ⟨_, _, _, _, _, rfl, M13.same ((same_new np).trans s14)⟩⟩⟩
    rintro σ' H14 ⟨x2, x4, x5, x8, x9, rfl, M14⟩
    have alike : ∀ {Hx : Hp} {g : Res} {v v2 : V}, Rp Hx v (encRes g) → Rp Hx v2 (encRes g) → Eq3 K Hx 20 v v2 := fun {Hx g v v2} h1 h2 => eq3_of (eq2_of 20 _ _ _ h1 h2 (enc_fit g).1 (enc_fit g).2.1)
    refine ⟨_, rfl, S, rs, ls, 0, 2, rfl, M14.sums, M14.ok, by decide, by decide, .inl rfl, fun _ v H15 s15 hv => ?_, fun hun => absurd hun (grow_zero rs 2)⟩
    have M15 := M14.same s15
    refine ⟨_, rfl, S, rs, ls, 0, 2, rfl, M15.sums, M15.ok, by decide, by decide, .inl rfl, fun v2 H16 s16 hv2 => ?_⟩
    refine ⟨v, v2, rfl, alike (hv.to (Imm.same s16)) hv2, fun H17 s17 => ⟨true, rfl, iteF ?_⟩⟩
    have M17 := (M15.same s16).same s17
    refine ⟨_, rfl, m, 0, rfl, rfl, _, rfl, ite2 (fun c => ?_) (fun c => ?_)⟩
    · refine ⟨_, rfl, _, rfl, S, rs, ls, m, 2, rfl, M17.sums, M17.ok, m0, by omega, .inl rfl, fun v3 H18 s18 hv3 => ?_⟩
      have M18 := M17.same s18
      have hune := enc_uneven (grow rs m 2)
      refine ⟨_, _, rp_dp _ v3 hv3, .str _, hune.2, by decide +kernel, ?_⟩
      rw [hune.1]
      refine ⟨_, rfl, ite2 (fun c2 => ?_) (fun c2 => ?_)⟩
      · have hne : grow rs m 2 ≠ .un := fun z => by rw [z] at c2; cases c2
        refine ⟨_, rfl, _, rfl, rfl, rfl, S, rs, ls, m, 2, rfl, M18.sums, M18.ok, m0, by omega, .inl rfl, fun _ v4 H19 s19 hv4 => ?_, fun hun => absurd hun hne⟩
        have M19 := M18.same s19
        refine ⟨_, rfl, _, rfl, S, rs, ls, m, 2, rfl, M19.sums, M19.ok, m0, by omega, .inl rfl, fun v5 H20 s20 hv5 => ?_⟩
        refine ⟨v4, v5, rfl, alike (hv4.to (Imm.same s20)) hv5, fun H21 s21 => ⟨true, rfl, iteF ?_⟩⟩
        have M21 := (M19.same s20).same s21
        exact ⟨⟨_, _, _, _, _, _, _, _, rfl⟩, M21.dr, M21.tab⟩
      · exact ⟨⟨_, _, _, _, _, _, _, _, rfl⟩, M18.dr, M18.tab⟩
    · exact ⟨⟨_, _, _, _, _, _, _, _, rfl⟩, M17.dr, M17.tab⟩
  · exact q H2
theorem lawAt {K : PySem.W.Frag} {h : Heap} {w : World} (T : Tops K mg) (X : Exx K mg) {c Pt : Addr} (hcode : T.dlaw.code = .ref c) (hhd : PySem.W.CodeHd h c Pt) (hP : h.get? Pt = some { cls := .none, data := .fields #[] }) (nP : K.lookup Pt = none) : LamX.LawAtS PySem.Challenge.rw_outgrow_k14_growths_of_sums w K C8.CX0 40 63 "_law_script" mg T.flaw h :=
  ⟨T.dlaw, [(c, Pt)], spLawT K Pt, fun p hp => by rw [List.mem_singleton.mp hp]; exact hP, fun p hp => by rw [List.mem_singleton.mp hp]; exact nP, fun p hp => by rw [List.mem_singleton.mp hp]; exact hhd, T.blaw,
    fun H a ns hl _ hT hS => ⟨a, ns, rfl, hS, hl, hT (c, Pt) List.mem_cons_self, fun _ => rfl⟩, fun base _ _ tb => ok_lawT T X hcode (tb (c, Pt) List.mem_cons_self)⟩
end
end K14

set_option Elab.async false
set_option linter.all false
set_option maxRecDepth 100000
set_option maxHeartbeats 4000000
namespace K14
open PySem PySem.Spec PyProof.Rows L2 OG
theorem all_mk {K : PySem.W.Frag} {h : Heap} {mg : Str → Option Value} {fa : Addr} (X : K.In h) (G : h.Ns mainGlobals mg) (hfa : mg "law" = some (.ref fa))
    {f1 : Addr} {od1 an1 : Option Addr} {sl1 : Array (Option Value)} {oc1 kV1 dc1 pm1 cd1 ct1 : Value}
    {f2 : Addr} {od2 an2 : Option Addr} {sl2 : Array (Option Value)} {oc2 kV2 dc2 pm2 cd2 ct2 : Value}
    {f3 : Addr} {od3 an3 : Option Addr} {sl3 : Array (Option Value)} {oc3 kV3 dc3 pm3 cd3 ct3 : Value}
    {f4 : Addr} {od4 an4 : Option Addr} {sl4 : Array (Option Value)} {oc4 kV4 dc4 pm4 cd4 ct4 : Value}
    {f5 : Addr} {od5 an5 : Option Addr} {sl5 : Array (Option Value)} {oc5 kV5 dc5 pm5 cd5 ct5 : Value}
    {f6 : Addr} {od6 an6 : Option Addr} {sl6 : Array (Option Value)} {oc6 kV6 dc6 pm6 cd6 ct6 : Value}
    {f7 : Addr} {od7 an7 : Option Addr} {sl7 : Array (Option Value)} {oc7 kV7 dc7 pm7 cd7 ct7 : Value}
    {f8 : Addr} {od8 an8 : Option Addr} {sl8 : Array (Option Value)} {oc8 kV8 dc8 pm8 cd8 ct8 : Value}
    {f9 : Addr} {od9 an9 : Option Addr} {sl9 : Array (Option Value)} {oc9 kV9 dc9 pm9 cd9 ct9 : Value}
    {f10 : Addr} {od10 an10 : Option Addr} {sl10 : Array (Option Value)} {oc10 kV10 dc10 pm10 cd10 ct10 : Value}
    {f11 : Addr} {od11 an11 : Option Addr} {sl11 : Array (Option Value)} {oc11 kV11 dc11 pm11 cd11 ct11 : Value}
    {f12 : Addr} {od12 an12 : Option Addr} {sl12 : Array (Option Value)} {oc12 kV12 dc12 pm12 cd12 ct12 : Value}
    {f13 : Addr} {od13 an13 : Option Addr} {sl13 : Array (Option Value)} {oc13 kV13 dc13 pm13 cd13 ct13 : Value}
    {f14 : Addr} {od14 an14 : Option Addr} {sl14 : Array (Option Value)} {oc14 kV14 dc14 pm14 cd14 ct14 : Value}
    {f15 : Addr} {od15 an15 : Option Addr} {sl15 : Array (Option Value)} {oc15 kV15 dc15 pm15 cd15 ct15 : Value}
    {f16 : Addr} {od16 an16 : Option Addr} {sl16 : Array (Option Value)} {oc16 kV16 dc16 pm16 cd16 ct16 : Value}
    {f17 : Addr} {od17 an17 : Option Addr} {sl17 : Array (Option Value)} {oc17 kV17 dc17 pm17 cd17 ct17 : Value}
    {f18 : Addr} {od18 an18 : Option Addr} {sl18 : Array (Option Value)} {oc18 kV18 dc18 pm18 cd18 ct18 : Value}
    {f19 : Addr} {od19 an19 : Option Addr} {sl19 : Array (Option Value)} {oc19 kV19 dc19 pm19 cd19 ct19 : Value}
    {f20 : Addr} {od20 an20 : Option Addr} {sl20 : Array (Option Value)} {oc20 kV20 dc20 pm20 cd20 ct20 : Value}
    {f21 : Addr} {od21 an21 : Option Addr} {sl21 : Array (Option Value)} {oc21 kV21 dc21 pm21 cd21 ct21 : Value}
    {f22 : Addr} {od22 an22 : Option Addr} {sl22 : Array (Option Value)} {oc22 kV22 dc22 pm22 cd22 ct22 : Value}
    {f23 : Addr} {od23 an23 : Option Addr} {sl23 : Array (Option Value)} {oc23 kV23 dc23 pm23 cd23 ct23 : Value}
    {va1 : Addr} {vd1 : Option Addr} {vn1 : Nat} {vs1 : Array (Option Value)} {vt1_0 vt1_1 : Tok}
    (a1 : PySem.W.nsIn K mainGlobals "power" = some (some (.ref f1))) (l1 : K.lookup f1 = some ⟨oc1, od1, .func (PySem.W.fnOf "power" "power" (defArgs spower) (defBody spower) (defScope spower) .none kV1 dc1 pm1 an1 cd1 ct1), sl1⟩) (c1 : PySem.W.codeIn K cd1 "power" = true) (k1 : PySem.W.keepIn K (.ref f1) = true)
    (a2 : PySem.W.nsIn K mainGlobals "greatest_divisor" = some (some (.ref f2))) (l2 : K.lookup f2 = some ⟨oc2, od2, .func (PySem.W.fnOf "greatest_divisor" "greatest_divisor" (defArgs sgreatest_divisor) (defBody sgreatest_divisor) (defScope sgreatest_divisor) .none kV2 dc2 pm2 an2 cd2 ct2), sl2⟩) (c2 : PySem.W.codeIn K cd2 "greatest_divisor" = true) (k2 : PySem.W.keepIn K (.ref f2) = true)
    (a3 : PySem.W.nsIn K mainGlobals "part_of" = some (some (.ref f3))) (l3 : K.lookup f3 = some ⟨oc3, od3, .func (PySem.W.fnOf "part_of" "part_of" (defArgs spart_of) (defBody spart_of) (defScope spart_of) .none kV3 dc3 pm3 an3 cd3 ct3), sl3⟩) (c3 : PySem.W.codeIn K cd3 "part_of" = true) (k3 : PySem.W.keepIn K (.ref f3) = true)
    (a4 : PySem.W.nsIn K mainGlobals "part_sum" = some (some (.ref f4))) (l4 : K.lookup f4 = some ⟨oc4, od4, .func (PySem.W.fnOf "part_sum" "part_sum" (defArgs spart_sum) (defBody spart_sum) (defScope spart_sum) .none kV4 dc4 pm4 an4 cd4 ct4), sl4⟩) (c4 : PySem.W.codeIn K cd4 "part_sum" = true) (k4 : PySem.W.keepIn K (.ref f4) = true)
    (a5 : PySem.W.nsIn K mainGlobals "row_at" = some (some (.ref f5))) (l5 : K.lookup f5 = some ⟨oc5, od5, .func (PySem.W.fnOf "row_at" "row_at" (defArgs srow_at) (defBody srow_at) (defScope srow_at) .none kV5 dc5 pm5 an5 cd5 ct5), sl5⟩) (c5 : PySem.W.codeIn K cd5 "row_at" = true) (k5 : PySem.W.keepIn K (.ref f5) = true)
    (a6 : PySem.W.nsIn K mainGlobals "worth" = some (some (.ref f6))) (l6 : K.lookup f6 = some ⟨oc6, od6, .func (PySem.W.fnOf "worth" "worth" (defArgs sworth) (defBody sworth) (defScope sworth) .none kV6 dc6 pm6 an6 cd6 ct6), sl6⟩) (c6 : PySem.W.codeIn K cd6 "worth" = true) (k6 : PySem.W.keepIn K (.ref f6) = true)
    (a7 : PySem.W.nsIn K mainGlobals "growth" = some (some (.ref f7))) (l7 : K.lookup f7 = some ⟨oc7, od7, .func (PySem.W.fnOf "growth" "growth" (defArgs sgrowth) (defBody sgrowth) (defScope sgrowth) .none kV7 dc7 pm7 an7 cd7 ct7), sl7⟩) (c7 : PySem.W.codeIn K cd7 "growth" = true) (k7 : PySem.W.keepIn K (.ref f7) = true)
    (a8 : PySem.W.nsIn K mainGlobals "faint_growth" = some (some (.ref f8))) (l8 : K.lookup f8 = some ⟨oc8, od8, .func (PySem.W.fnOf "faint_growth" "faint_growth" (defArgs sfaint_growth) (defBody sfaint_growth) (defScope sfaint_growth) .none kV8 dc8 pm8 an8 cd8 ct8), sl8⟩) (c8 : PySem.W.codeIn K cd8 "faint_growth" = true) (k8 : PySem.W.keepIn K (.ref f8) = true)
    (a9 : PySem.W.nsIn K mainGlobals "told_growth" = some (some (.ref f9))) (l9 : K.lookup f9 = some ⟨oc9, od9, .func (PySem.W.fnOf "told_growth" "told_growth" (defArgs stold_growth) (defBody stold_growth) (defScope stold_growth) .none kV9 dc9 pm9 an9 cd9 ct9), sl9⟩) (c9 : PySem.W.codeIn K cd9 "told_growth" = true) (k9 : PySem.W.keepIn K (.ref f9) = true)
    (a10 : PySem.W.nsIn K mainGlobals "_law_begin" = some (some (.ref f10))) (l10 : K.lookup f10 = some ⟨oc10, od10, .func (PySem.W.fnOf "_law_begin" "_law_begin" (defArgs sl_begin) (defBody sl_begin) (defScope sl_begin) .none kV10 dc10 pm10 an10 cd10 ct10), sl10⟩) (c10 : PySem.W.codeIn K cd10 "_law_begin" = true) (k10 : PySem.W.keepIn K (.ref f10) = true)
    (a11 : PySem.W.nsIn K mainGlobals "_law_take" = some (some (.ref f11))) (l11 : K.lookup f11 = some ⟨oc11, od11, .func (PySem.W.fnOf "_law_take" "_law_take" (defArgs sl_take) (defBody sl_take) (defScope sl_take) .none kV11 dc11 pm11 an11 cd11 ct11), sl11⟩) (c11 : PySem.W.codeIn K cd11 "_law_take" = true) (k11 : PySem.W.keepIn K (.ref f11) = true)
    (a12 : PySem.W.nsIn K mainGlobals "_law_gcd" = some (some (.ref f12))) (l12 : K.lookup f12 = some ⟨oc12, od12, .func (PySem.W.fnOf "_law_gcd" "_law_gcd" (defArgs sl_gcd) (defBody sl_gcd) (defScope sl_gcd) .none kV12 dc12 pm12 an12 cd12 ct12), sl12⟩) (c12 : PySem.W.codeIn K cd12 "_law_gcd" = true) (k12 : PySem.W.keepIn K (.ref f12) = true)
    (a13 : PySem.W.nsIn K mainGlobals "_law_lowest" = some (some (.ref f13))) (l13 : K.lookup f13 = some ⟨oc13, od13, .func (PySem.W.fnOf "_law_lowest" "_law_lowest" (defArgs sl_lowest) (defBody sl_lowest) (defScope sl_lowest) .none kV13 dc13 pm13 an13 cd13 ct13), sl13⟩) (c13 : PySem.W.codeIn K cd13 "_law_lowest" = true) (k13 : PySem.W.keepIn K (.ref f13) = true)
    (a14 : PySem.W.nsIn K mainGlobals "_law_terms" = some (some (.ref f14))) (l14 : K.lookup f14 = some ⟨oc14, od14, .func (PySem.W.fnOf "_law_terms" "_law_terms" (defArgs sl_terms) (defBody sl_terms) (defScope sl_terms) .none kV14 dc14 pm14 an14 cd14 ct14), sl14⟩) (c14 : PySem.W.codeIn K cd14 "_law_terms" = true) (k14 : PySem.W.keepIn K (.ref f14) = true)
    (a15 : PySem.W.nsIn K mainGlobals "_law_drawn_sums" = some (some (.ref f15))) (l15 : K.lookup f15 = some ⟨oc15, od15, .func (PySem.W.fnOf "_law_drawn_sums" "_law_drawn_sums" (defArgs sl_drawn_sums) (defBody sl_drawn_sums) (defScope sl_drawn_sums) .none kV15 dc15 pm15 an15 cd15 ct15), sl15⟩) (c15 : PySem.W.codeIn K cd15 "_law_drawn_sums" = true) (k15 : PySem.W.keepIn K (.ref f15) = true)
    (a16 : PySem.W.nsIn K mainGlobals "_law_plus_sums" = some (some (.ref f16))) (l16 : K.lookup f16 = some ⟨oc16, od16, .func (PySem.W.fnOf "_law_plus_sums" "_law_plus_sums" (defArgs sl_plus_sums) (defBody sl_plus_sums) (defScope sl_plus_sums) .none kV16 dc16 pm16 an16 cd16 ct16), sl16⟩) (c16 : PySem.W.codeIn K cd16 "_law_plus_sums" = true) (k16 : PySem.W.keepIn K (.ref f16) = true)
    (a17 : PySem.W.nsIn K mainGlobals "_law_raised" = some (some (.ref f17))) (l17 : K.lookup f17 = some ⟨oc17, od17, .func (PySem.W.fnOf "_law_raised" "_law_raised" (defArgs sl_raised) (defBody sl_raised) (defScope sl_raised) .none kV17 dc17 pm17 an17 cd17 ct17), sl17⟩) (c17 : PySem.W.codeIn K cd17 "_law_raised" = true) (k17 : PySem.W.keepIn K (.ref f17) = true)
    (a18 : PySem.W.nsIn K mainGlobals "_law_sums_at" = some (some (.ref f18))) (l18 : K.lookup f18 = some ⟨oc18, od18, .func (PySem.W.fnOf "_law_sums_at" "_law_sums_at" (defArgs sl_sums_at) (defBody sl_sums_at) (defScope sl_sums_at) .none kV18 dc18 pm18 an18 cd18 ct18), sl18⟩) (c18 : PySem.W.codeIn K cd18 "_law_sums_at" = true) (k18 : PySem.W.keepIn K (.ref f18) = true)
    (a19 : PySem.W.nsIn K mainGlobals "_law_due_growth" = some (some (.ref f19))) (l19 : K.lookup f19 = some ⟨oc19, od19, .func (PySem.W.fnOf "_law_due_growth" "_law_due_growth" (defArgs sl_due_growth) (defBody sl_due_growth) (defScope sl_due_growth) .none kV19 dc19 pm19 an19 cd19 ct19), sl19⟩) (c19 : PySem.W.codeIn K cd19 "_law_due_growth" = true) (k19 : PySem.W.keepIn K (.ref f19) = true)
    (a20 : PySem.W.nsIn K mainGlobals "_law_class" = some (some (.ref f20))) (l20 : K.lookup f20 = some ⟨oc20, od20, .func (PySem.W.fnOf "_law_class" "_law_class" (defArgs sl_class) (defBody sl_class) (defScope sl_class) .none kV20 dc20 pm20 an20 cd20 ct20), sl20⟩) (c20 : PySem.W.codeIn K cd20 "_law_class" = true) (k20 : PySem.W.keepIn K (.ref f20) = true)
    (a21 : PySem.W.nsIn K mainGlobals "_law_tried" = some (some (.ref f21))) (l21 : K.lookup f21 = some ⟨oc21, od21, .func (PySem.W.fnOf "_law_tried" "_law_tried" (defArgs sl_tried) (defBody sl_tried) (defScope sl_tried) .none kV21 dc21 pm21 an21 cd21 ct21), sl21⟩) (c21 : PySem.W.codeIn K cd21 "_law_tried" = true) (k21 : PySem.W.keepIn K (.ref f21) = true)
    (a22 : PySem.W.nsIn K mainGlobals "_law_same" = some (some (.ref f22))) (l22 : K.lookup f22 = some ⟨oc22, od22, .func (PySem.W.fnOf "_law_same" "_law_same" (defArgs sl_same) (defBody sl_same) (defScope sl_same) .none kV22 dc22 pm22 an22 cd22 ct22), sl22⟩) (c22 : PySem.W.codeIn K cd22 "_law_same" = true) (k22 : PySem.W.keepIn K (.ref f22) = true)
    (a23 : PySem.W.nsIn K mainGlobals "law" = some (some (.ref f23))) (l23 : K.lookup f23 = some ⟨oc23, od23, .func (PySem.W.fnOf "law" "law" (defArgs slaw) (defBody slaw) (defScope slaw) .none kV23 dc23 pm23 an23 cd23 ct23), sl23⟩) (c23 : PySem.W.codeIn K cd23 "law" = true) (k23 : PySem.W.keepIn K (.ref f23) = true)
    (z1 : PySem.W.nsIn K mainGlobals "abs" = some none)
    (z2 : PySem.W.nsIn K mainGlobals "all" = some none)
    (z3 : PySem.W.nsIn K mainGlobals "any" = some none)
    (z4 : PySem.W.nsIn K mainGlobals "bool" = some none)
    (z5 : PySem.W.nsIn K mainGlobals "int" = some none)
    (z6 : PySem.W.nsIn K mainGlobals "isinstance" = some none)
    (z7 : PySem.W.nsIn K mainGlobals "len" = some none)
    (z8 : PySem.W.nsIn K mainGlobals "list" = some none)
    (z9 : PySem.W.nsIn K mainGlobals "max" = some none)
    (z10 : PySem.W.nsIn K mainGlobals "range" = some none)
    (z11 : PySem.W.nsIn K mainGlobals "sorted" = some none)
    (z12 : PySem.W.nsIn K mainGlobals "str" = some none)
    (z13 : PySem.W.nsIn K mainGlobals "tuple" = some none)
    (z14 : PySem.W.nsIn K mainGlobals "zip" = some none)
    (v1 : PySem.W.nsIn K mainGlobals "NOUGHT" = some (some (.ref va1))) (w1 : K.lookup va1 = some ⟨.type "tuple", vd1, .seq #[.int 0 vt1_0, .int 1 vt1_1] vn1, vs1⟩) :
    ∃ T : Tops K mg, T.flaw = fa := by
  have e := hfa.symm.trans (PySem.W.mg_of X G a23)
  refine ⟨{ fpower := f1, dpower := _, Fpower := (fun_mk (st := spower) l1 c1 k1), gpower := (PySem.W.mg_of X G a1), fgreatest_divisor := f2, dgreatest_divisor := _, Fgreatest_divisor := (fun_mk (st := sgreatest_divisor) l2 c2 k2), ggreatest_divisor := (PySem.W.mg_of X G a2), fpart_of := f3, dpart_of := _, Fpart_of := (fun_mk (st := spart_of) l3 c3 k3), gpart_of := (PySem.W.mg_of X G a3), fpart_sum := f4, dpart_sum := _, Fpart_sum := (fun_mk (st := spart_sum) l4 c4 k4), gpart_sum := (PySem.W.mg_of X G a4), frow_at := f5, drow_at := _, Frow_at := (fun_mk (st := srow_at) l5 c5 k5), grow_at := (PySem.W.mg_of X G a5), fworth := f6, dworth := _, Fworth := (fun_mk (st := sworth) l6 c6 k6), gworth := (PySem.W.mg_of X G a6), fgrowth := f7, dgrowth := _, Fgrowth := (fun_mk (st := sgrowth) l7 c7 k7), ggrowth := (PySem.W.mg_of X G a7), ffaint_growth := f8, dfaint_growth := _, Ffaint_growth := (fun_mk (st := sfaint_growth) l8 c8 k8), gfaint_growth := (PySem.W.mg_of X G a8), ftold_growth := f9, dtold_growth := _, Ftold_growth := (fun_mk (st := stold_growth) l9 c9 k9), gtold_growth := (PySem.W.mg_of X G a9), fl_begin := f10, dl_begin := _, Fl_begin := (fun_mk (st := sl_begin) l10 c10 k10), gl_begin := (PySem.W.mg_of X G a10), fl_take := f11, dl_take := _, Fl_take := (fun_mk (st := sl_take) l11 c11 k11), gl_take := (PySem.W.mg_of X G a11), fl_gcd := f12, dl_gcd := _, Fl_gcd := (fun_mk (st := sl_gcd) l12 c12 k12), gl_gcd := (PySem.W.mg_of X G a12), fl_lowest := f13, dl_lowest := _, Fl_lowest := (fun_mk (st := sl_lowest) l13 c13 k13), gl_lowest := (PySem.W.mg_of X G a13), fl_terms := f14, dl_terms := _, Fl_terms := (fun_mk (st := sl_terms) l14 c14 k14), gl_terms := (PySem.W.mg_of X G a14), fl_drawn_sums := f15, dl_drawn_sums := _, Fl_drawn_sums := (fun_mk (st := sl_drawn_sums) l15 c15 k15), gl_drawn_sums := (PySem.W.mg_of X G a15), fl_plus_sums := f16, dl_plus_sums := _, Fl_plus_sums := (fun_mk (st := sl_plus_sums) l16 c16 k16), gl_plus_sums := (PySem.W.mg_of X G a16), fl_raised := f17, dl_raised := _, Fl_raised := (fun_mk (st := sl_raised) l17 c17 k17), gl_raised := (PySem.W.mg_of X G a17), fl_sums_at := f18, dl_sums_at := _, Fl_sums_at := (fun_mk (st := sl_sums_at) l18 c18 k18), gl_sums_at := (PySem.W.mg_of X G a18), fl_due_growth := f19, dl_due_growth := _, Fl_due_growth := (fun_mk (st := sl_due_growth) l19 c19 k19), gl_due_growth := (PySem.W.mg_of X G a19), fl_class := f20, dl_class := _, Fl_class := (fun_mk (st := sl_class) l20 c20 k20), gl_class := (PySem.W.mg_of X G a20), fl_tried := f21, dl_tried := _, Fl_tried := (fun_mk (st := sl_tried) l21 c21 k21), gl_tried := (PySem.W.mg_of X G a21), fl_same := f22, dl_same := _, Fl_same := (fun_mk (st := sl_same) l22 c22 k22), gl_same := (PySem.W.mg_of X G a22), flaw := f23, dlaw := _, Flaw := (fun_mk (st := slaw) l23 c23 k23), glaw := (PySem.W.mg_of X G a23), mabs := PySem.W.mg_none_of X G z1, mall := PySem.W.mg_none_of X G z2, many := PySem.W.mg_none_of X G z3, mbool := PySem.W.mg_none_of X G z4, mint := PySem.W.mg_none_of X G z5, misinstance := PySem.W.mg_none_of X G z6, mlen := PySem.W.mg_none_of X G z7, mlist := PySem.W.mg_none_of X G z8, mmax := PySem.W.mg_none_of X G z9, mrange := PySem.W.mg_none_of X G z10, msorted := PySem.W.mg_none_of X G z11, mstr := PySem.W.mg_none_of X G z12, mtuple := PySem.W.mg_none_of X G z13, mzip := PySem.W.mg_none_of X G z14, aNOUGHT := va1, cNOUGHT := ⟨_, PySem.W.mg_of X G v1, rfl⟩, tNOUGHT := fun H => .inr ⟨_, _, _, w1, rfl, rfl, (by show 2 ≤ sizeLine; decide), (.cons ⟨_, rfl⟩ (.cons ⟨_, rfl⟩ .nil))⟩ }, ?_⟩
  cases e
  rfl
theorem law_fin {K : PySem.W.Frag} {h : Heap} {w : World} {mg : Str → Option Value} (X : K.In h) (G : h.Ns mainGlobals mg) (T : Tops K mg) (E : Exx K mg) {f c P : Addr} {oc dV kV dc pm ct : Value} {od an dd : Option Addr} {sl sl2 : Array (Option Value)} {vs : Array Value} {fl : Str} {tf tg tt : Tok} {flags tx : Int} {inF : Bool}
    (aL : PySem.W.nsIn K mainGlobals "law" = some (some (.ref f))) (l : K.lookup f = some ⟨oc, od, .func (PySem.W.fnOf "law" "law" (defArgs slaw) (defBody slaw) (defScope slaw) dV kV dc pm an (.ref c) ct), sl⟩)
    (lc : K.lookup c = some ⟨.type "code", dd, .fields vs, sl2⟩) (h11 : vs[11]? = some (.ref P)) (g11 : vs.getD 11 .none = .ref P) (h18 : vs.getD 18 .none = .str fl tf) (h7 : vs.getD 7 .none = .int flags tg) (h9 : vs.getD 9 .none = .bool inF) (h10 : vs.getD 10 .none = .int tx tt) (ne : c ≠ P)
    (nP : K.lookup P = none) (hP : h.get? P = some { cls := .none, data := .fields #[] }) : LamX.LawAtS PySem.Challenge.rw_outgrow_k14_growths_of_sums w K C8.CX0 40 63 "_law_script" mg T.flaw h := by
  have e0 : T.flaw = f := by
    have z := T.glaw.symm.trans (PySem.W.mg_of X G aL)
    injection z with z
    injection z
  obtain ⟨oc', od', kV', doc', pm', an', cdv', ct', osl', e, lk, hcd⟩ := T.Flaw.ex
  rw [e0, l] at lk
  have e2 := Option.some.inj lk
  injection e2 with _ _ e3 _
  injection e3 with e4
  exact lawAt T E (by rw [← e4]) (codeHd_of X lc h11 g11 h18 h7 h9 h10 ne) hP nP
end K14
open PySem PySem.W PyProof.Rows
set_option maxRecDepth 100000 in
set_option maxHeartbeats 0 in
theorem PySem.Challenge.cw_outgrow_k14_growths_of_sums_holds : PySem.Challenge.rw_outgrow_k14_growths_of_sums.Holds := by
  w_on; o_law; k_head; (case hw => w_witness2)
  k_fill
  refine LamX.walk_ofTs (l := PySem.Challenge.rw_outgrow_k14_growths_of_sums) (n := 63) (k := 40) (x := "_law_script") (CX := fun _ => C8.CX0) rfl (by decide) rfl ⟨rfl, by decide, by decide⟩ (fun w h Y => PySem.W.km_in_of Y) ?F (fun _ _ _ _ _ h => h)
  case F =>
    intro w mg fa h Y KX G hmg
    have hT := K14.all_mk KX G hmg (by k_is) (by k_is) (by k_is) (by k_is) (by k_is) (by k_is) (by k_is) (by k_is) (by k_is) (by k_is) (by k_is) (by k_is) (by k_is) (by k_is) (by k_is) (by k_is) (by k_is) (by k_is) (by k_is) (by k_is) (by k_is) (by k_is) (by k_is) (by k_is) (by k_is) (by k_is) (by k_is) (by k_is) (by k_is) (by k_is) (by k_is) (by k_is) (by k_is) (by k_is) (by k_is) (by k_is) (by k_is) (by k_is) (by k_is) (by k_is) (by k_is) (by k_is) (by k_is) (by k_is) (by k_is) (by k_is) (by k_is) (by k_is) (by k_is) (by k_is) (by k_is) (by k_is) (by k_is) (by k_is) (by k_is) (by k_is) (by k_is) (by k_is) (by k_is) (by k_is) (by k_is) (by k_is) (by k_is) (by k_is) (by k_is) (by k_is) (by k_is) (by k_is) (by k_is) (by k_is) (by k_is) (by k_is) (by k_is) (by k_is) (by k_is) (by k_is) (by k_is) (by k_is) (by k_is) (by k_is) (by k_is) (by k_is) (by k_is) (by k_is) (by k_is) (by k_is) (by k_is) (by k_is) (by k_is) (by k_is) (by k_is) (by k_is) (by k_is) (by k_is) (by k_is) (by k_is) (by k_is) (by k_is) (by k_is) (by k_is) (by k_is) (by k_is) (by k_is) (by k_is) (by k_is) (by k_is) (by k_is) (by k_is)
    obtain ⟨T, rfl⟩ := hT
    have hX := K14.exx_mk KX G (by first | k_is | rfl) (by first | k_is | rfl) (by first | k_is | rfl) (by first | k_is | rfl) (by first | k_is | rfl) (by first | k_is | rfl) (by first | k_is | rfl) (by first | k_is | rfl) (by first | k_is | rfl) (by first | k_is | rfl) (by first | k_is | rfl) (by first | k_is | rfl) (by first | k_is | rfl) (by first | k_is | rfl) (by first | k_is | rfl) (by first | k_is | rfl) (by first | k_is | rfl) (by first | k_is | rfl) (by first | k_is | rfl) (by first | k_is | rfl) (by first | k_is | rfl) (by first | k_is | rfl) (by first | k_is | rfl) (by first | k_is | rfl) (by first | k_is | rfl) (by first | k_is | rfl) (by first | k_is | rfl) (by first | k_is | rfl) (by first | k_is | rfl) (by first | k_is | rfl) (by first | k_is | rfl) (by first | k_is | rfl) (by first | k_is | rfl) (by first | k_is | rfl) (by first | k_is | rfl) (by first | k_is | rfl) (by first | k_is | rfl) (by first | k_is | rfl) (by first | k_is | rfl) (by first | k_is | rfl) (by first | k_is | rfl) (by first | k_is | rfl) (by first | k_is | rfl) (by first | k_is | rfl) (by first | k_is | rfl) (by first | k_is | rfl) (by first | k_is | rfl) (by first | k_is | rfl) (by first | k_is | rfl) (by first | k_is | rfl) (by first | k_is | rfl) (by first | k_is | rfl) (by first | k_is | rfl) (by first | k_is | rfl) (by first | k_is | rfl) (by first | k_is | rfl) (by first | k_is | rfl) (by first | k_is | rfl) (by first | k_is | rfl) (by first | k_is | rfl) (by first | k_is | rfl) (by first | k_is | rfl) (by first | k_is | rfl) (by first | k_is | rfl) (by first | k_is | rfl) (by first | k_is | rfl) (by first | k_is | rfl) (by first | k_is | rfl) (by first | k_is | rfl) (by first | k_is | rfl) (by first | k_is | rfl) (by first | k_is | rfl) (by first | k_is | rfl) (by first | k_is | rfl) (by first | k_is | rfl) (by first | k_is | rfl) (by first | k_is | rfl) (by first | k_is | rfl) (by first | k_is | rfl) (by first | k_is | rfl) (by first | k_is | rfl) (by first | k_is | rfl) (by first | k_is | rfl) (by first | k_is | rfl) (by first | k_is | rfl) (by first | k_is | rfl) (by first | k_is | rfl) (by first | k_is | rfl) (by first | k_is | rfl) (by first | k_is | rfl) (by first | k_is | rfl) (by first | k_is | rfl) (by first | k_is | rfl) (by first | k_is | rfl) (by first | k_is | rfl) (by first | k_is | rfl) (by first | k_is | rfl) (by first | k_is | rfl) (by first | k_is | rfl) (by first | k_is | rfl) (by first | k_is | rfl) (by first | k_is | rfl) (by first | k_is | rfl) (by first | k_is | rfl) (by first | k_is | rfl) (by first | k_is | rfl) (by first | k_is | rfl) (by first | k_is | rfl) (by first | k_is | rfl) (by first | k_is | rfl) (by first | k_is | rfl) (by first | k_is | rfl) (by first | k_is | rfl) (by first | k_is | rfl) (by first | k_is | rfl) (by first | k_is | rfl)
    obtain ⟨X⟩ := hX
    exact K14.law_fin KX G T X (by k_is) (by k_is) (by k_is) (by rfl) (by rfl) (by rfl) (by rfl) (by rfl) (by rfl) (by decide) (by first | k_is | rfl) (PySem.W.km_tabs_of Y _ (by first | decide | simp))

