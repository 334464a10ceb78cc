import PyProof.Rows.All
import Wide.All
import OpenK.AllK
import Wide.FinOn
import HandS.ForMost
import HandS.Walk
import HandS.Codes
import HandS.IsInst
import HandS.Style
import HandS.TupAny
import HandS.FStr
import HandS.CallLocal
import HandS.More
import HandS.Zip
import HandS.Dict
import HandS.WordsDict
import HandS.Star
import HandS.SortRule
import HandS.Conv
import HandS.Wide
import HandS.WideBits
import PyProof.ReprRoads
import PyProof.ReprBulk
import HandS.Defaults
import HandS.EndOwn
import HandS.ForDict
import PySem.Challenge.RW_outgrow_k08_steps_walked
set_option Elab.async false
set_option linter.all false
set_option maxRecDepth 100000
set_option maxHeartbeats 4000000
namespace OG
open PySem PySem.Spec PyProof.Rows L2
open C8 (pss_cut pe_gc)

/-! ### heaps -/
theorem same_new {H : Hp} {p : Addr} {o : HO} (h : H p = none) : Same H (upd H p o) := fun b u e => by
  rw [upd_ne (ne_of_none e h)]
  exact e
/-- only the object at d may differ -/
def But (d : Addr) (H H' : Hp) : Prop := ∀ b, b ≠ d → H' b = H b
theorem But.refl (d : Addr) (H : Hp) : But d H H := fun _ _ => rfl
theorem But.trans {d : Addr} {H H1 H2 : Hp} (a : But d H H1) (b : But d H1 H2) : But d H H2 := fun x h => (b x h).trans (a x h)
theorem but_upd {d : Addr} {H : Hp} {o : HO} : But d H (upd H d o) := fun _ h => upd_ne h
/-- all that was tracked stands as it was, but for what M tells -/
def Sx (M : Addr → Prop) (H H' : Hp) : Prop := ∀ b u, ¬ M b → H b = some u → H' b = some u
theorem Sx.refl (M : Addr → Prop) (H : Hp) : Sx M H H := fun _ _ _ h => h
theorem Sx.trans {M : Addr → Prop} {H H1 H2 : Hp} (a : Sx M H H1) (b : Sx M H1 H2) : Sx M H H2 := fun c u n h => b c u n (a c u n h)
theorem Sx.of_same {M : Addr → Prop} {H H' : Hp} (a : Same H H') : Sx M H H' := fun b u _ h => a b u h
theorem Sx.of_but {M : Addr → Prop} {d : Addr} {H H' : Hp} (a : But d H H') (m : M d) : Sx M H H' := fun b u n h => by
  rw [a b (fun e => n (e ▸ m))]
  exact h
theorem Sx.mono {M N : Addr → Prop} {H H' : Hp} (a : Sx M H H') (h : ∀ b, M b → N b) : Sx N H H' := fun b u n e => a b u (fun m => n (h b m)) e
theorem Sx.upd_in {M : Addr → Prop} {H H' : Hp} {p : Addr} {o : HO} (a : Sx M H H') (m : M p) : Sx M H (upd H' p o) := fun b u n e => by
  have z : b ≠ p := fun z => n (by rw [z]; exact m)
  rw [upd_ne z]
  exact a b u n e
/-- what was not tracked ahead may be written -/
theorem Sx.upd_new {M : Addr → Prop} {H H' : Hp} {p : Addr} {o : HO} (a : Sx M H H') (h : H p = none) : Sx M H (upd H' p o) := fun b u n e => by
  rw [upd_ne (ne_of_none e h)]
  exact a b u n e
theorem Same.upd_new {H H' : Hp} {p : Addr} {o : HO} (a : Same H H') (h : H p = none) : Same H (upd H' p o) := fun b u e => by
  rw [upd_ne (ne_of_none e h)]
  exact a b u e
theorem but_none {d : Addr} {H H' : Hp} (a : But d H H') {p : Addr} (h : H' p = none) (hd : ∃ u, H' d = some u) : H p = none := by
  by_cases e : p = d
  · subst e
    obtain ⟨u, q⟩ := hd
    rw [q] at h
    cases h
  · rw [← a p e]
    exact h
theorem sz {n : Nat} (h : n ≤ 100000) : n ≤ sizeLine := Nat.le_trans h (by decide)
theorem szl {n : Nat} (h : n < 100000) : n < sizeLine := Nat.lt_of_lt_of_le h (by decide)

/-! ### texts -/
abbrev S (l : List Nat) : Str := ⟨l.toArray⟩
abbrev tl (x : Str) : List Nat := x.cps.toList
theorem S_tl (x : Str) : S (tl x) = x := by cases x; rfl
theorem len_tl (x : Str) : x.length = (tl x).length := by simp [Str.length, tl]
theorem len_S (l : List Nat) : (S l).length = l.length := by simp [Str.length, S]
theorem tl_S (l : List Nat) : tl (S l) = l := rfl

/-! ### the drawing -/
/-- the drawing's own list at d: the script's copy at L, a place, a rest, a seed -/
def Dr (H : Hp) (d L : Addr) : Prop := ∃ (ns : List Int) (i r s : Int), H d = some (.lst [.ref L, .int i, .int r, .int s]) ∧ H L = some (.lst (ns.map V.int)) ∧ 0 ≤ i ∧ 0 ≤ r ∧ 0 ≤ s ∧ s < 2147483647
theorem Dr.ne {H : Hp} {d L : Addr} (h : Dr H d L) : L ≠ d := by
  obtain ⟨ns, i, r, s, hd, hL, _⟩ := h
  refine ne_of hL hd fun z => ?_
  have z2 := HO.lst.inj z
  cases ns with
  | nil => cases z2
  | cons n r =>
    have z3 := (List.cons.inj z2).1
    cases z3
theorem Dr.some {H : Hp} {d L : Addr} (h : Dr H d L) : ∃ u, H d = some u := by
  obtain ⟨ns, i, r, s, hd, _⟩ := h
  exact ⟨_, hd⟩
theorem Dr.someL {H : Hp} {d L : Addr} (h : Dr H d L) : ∃ u, H L = Option.some u := by
  obtain ⟨ns, i, r, s, hd, hL, _⟩ := h
  exact ⟨_, hL⟩
theorem Dr.same {H H' : Hp} {d L : Addr} (h : Dr H d L) (a : Same H H') : Dr H' d L := by
  obtain ⟨ns, i, r, s, hd, hL, q⟩ := h
  exact ⟨ns, i, r, s, a _ _ hd, a _ _ hL, q⟩
theorem Dr.at {H H' : Hp} {d L : Addr} (h : Dr H d L) (a : H' d = H d) (b : H' L = H L) : Dr H' d L := by
  obtain ⟨ns, i, r, s, hd, hL, q⟩ := h
  exact ⟨ns, i, r, s, a.trans hd, b.trans hL, q⟩
theorem Dr.upd {H : Hp} {d L p : Addr} {o : HO} (h : Dr H d L) (n1 : p ≠ d) (n2 : p ≠ L) : Dr (upd H p o) d L := h.at (upd_ne n1.symm) (upd_ne n2.symm)
theorem Dr.new {H : Hp} {d L p : Addr} {o : HO} (h : Dr H d L) (n : H p = none) : Dr (L2.upd H p o) d L := h.same (same_new n)
theorem Dr.neNew {H : Hp} {d L p : Addr} (h : Dr H d L) (n : H p = none) : p ≠ d ∧ p ≠ L := by
  obtain ⟨u, q⟩ := h.some
  obtain ⟨u2, q2⟩ := h.someL
  exact ⟨(ne_of_none q n).symm, (ne_of_none q2 n).symm⟩
theorem dr_set {H : Hp} {d L : Addr} {ns : List Int} {i r s : Int} (hL : H L = some (.lst (ns.map V.int))) (ne : L ≠ d) (h1 : 0 ≤ i) (h2 : 0 ≤ r) (h3 : 0 ≤ s) (h4 : s < 2147483647) :
    Dr (upd H d (.lst [.ref L, .int i, .int r, .int s])) d L := ⟨ns, i, r, s, upd_same, by rw [upd_ne ne]; exact hL, h1, h2, h3, h4⟩
/-- _law_take(draw, sides) -/
def spTake : Sp := fun vs H Q _ => ∃ (d L : Addr) (k : Int), vs = [.ref d, .int k] ∧ Dr H d L ∧ 1 ≤ k ∧ k < 1073741824 ∧
  ∀ (g : Int) (H' : Hp), 0 ≤ g → g < k → Dr H' d L → But d H H' → Q (.int g) H'
/-- _law_begin(script) -/
def spBegin (K : PySem.W.Frag) : Sp := fun vs H Q _ => ∃ (a : Addr) (ns : List Int), vs = [.ref a] ∧ SqL K H a (ns.map V.int) ∧
  ∀ (d L : Addr) (H' : Hp), Same H H' → H d = none → H L = none → Dr H' d L → Q (.ref d) H'
/-- _law_pick(draw, row), row a text | a list of texts -/
def spPick (K : PySem.W.Frag) : Sp := fun vs H Q _ => ∃ (d L : Addr) (x : V) (n : Nat), vs = [.ref d, x] ∧ Dr H d L ∧ 0 < n ∧ n < 100000 ∧
  ((∃ z : Str, x = .str z ∧ z.length = n ∧ ∀ (c : Nat) (H' : Hp), c ∈ tl z → Dr H' d L → But d H H' → Q (.str ⟨#[c]⟩) H') ∨
   (∃ (a : Addr) (xs : List V), x = .ref a ∧ a ≠ d ∧ SqL K H a xs ∧ xs.length = n ∧ ∀ (y : V) (H' : Hp), y ∈ xs → Dr H' d L → But d H H' → Q y H'))
/-- what a SqL tells stays where its place is not written -/
theorem SqL.but {K : PySem.W.Frag} {H H' : Hp} {d a : Addr} {xs : List V} (h : SqL K H a xs) (b : But d H H') (n : a ≠ d) : SqL K H' a xs := by
  rcases h with (h | ⟨o, h⟩) | h
  · exact .inl (.inl (by rw [b a n]; exact h))
  · exact .inl (.inr ⟨o, by rw [b a n]; exact h⟩)
  · exact .inr h
theorem SqL.sx {K : PySem.W.Frag} {M : Addr → Prop} {H H' : Hp} {a : Addr} {xs : List V} (h : SqL K H a xs) (b : Sx M H H') (n : ¬ M a) : SqL K H' a xs := by
  rcases h with (h | ⟨o, h⟩) | h
  · exact .inl (.inl (b _ _ n h))
  · exact .inl (.inr ⟨o, b _ _ n h⟩)
  · exact .inr h

theorem mod_lt {a k : Int} (h : 1 ≤ k) : 0 ≤ a % k ∧ a % k < k := ⟨Int.emod_nonneg _ (by omega), Int.emod_lt_of_pos _ (by omega)⟩
theorem atI_lt {α : Type} {xs : List α} {g : Int} (h0 : 0 ≤ g) (h1 : g < (xs.length : Int)) : ∃ v, atI xs g = some v ∧ v ∈ xs := by
  have hk : g.toNat < xs.length := by omega
  have e : g = ((g.toNat : Nat) : Int) := by omega
  refine ⟨xs[g.toNat], ?_, List.getElem_mem hk⟩
  have q : atI xs ((g.toNat : Nat) : Int) = some xs[g.toNat] := atI_nat (List.getElem?_eq_getElem hk)
  rw [← e] at q
  exact q
theorem cut_len (xs : List V) (lo hi : Option Int) : (cutV xs lo hi).length ≤ xs.length := cutV_length xs lo hi
theorem cut_map (ns : List Int) (lo hi : Option Int) : ∃ ms : List Int, cutV (ns.map V.int) lo hi = ms.map V.int := by
  refine ⟨(ns.drop (HT.sIx ns.length 0 lo)).take (HT.sIx ns.length ns.length hi - HT.sIx ns.length 0 lo), ?_⟩
  unfold cutV
  rw [List.length_map, List.map_take, List.map_drop]
/-! ### a comprehension over a text's signs, its element of a plain value -/
theorem lc_str_val {z : Str} {g : TG} {te : TE} {vs : List Nat} {σ : L2.St} {H1 : Hp} {D : Addr} {Qd : Hp → Prop} (f : Nat → V) (i0 : Nat) (hg : g = gName i0) (hw : ∀ v, wipe ((wipe σ vs).set i0 v) vs = wipe σ vs) (hz : z.length < 100000) (hD : H1 D = none)
    (he : ∀ c ∈ tl z, ∀ (H2 : Hp) (Q : VK), Same H1 H2 → Q (f c) H2 → te ((wipe σ vs).set i0 (some (.str ⟨#[c]⟩))) H2 Q)
    (hd : ∀ H', Same H1 H' → H' D = some (.lst ((tl z).map f)) → Qd H') :
    ∃ W : Nat → Nat → Hp → Prop, (∃ m, W 0 m (upd H1 D (.lst []))) ∧ ∀ i m H, W i m H →
      ((Its z).stop i H ∧ Qd H) ∨ ((Its z).go i H ∧ ∃ Nx : Hp → Prop, (∀ H', Nx H' → ∃ m', m' < m ∧ W (i + 1) m' H') ∧ ∀ x H', (Its z).yld i H x H' → g x (wipe σ vs) H' fun σ2 H2 => wipe σ2 vs = wipe σ vs ∧ tYes σ2 H2 fun b H3 =>
        if b = true then te σ2 H3 fun y H4 => ∃ acc, H4 D = some (.lst acc) ∧ acc.length < sizeLine ∧ Nx (upd H4 D (.lst (acc ++ [y]))) else Nx H3) := by
  subst hg
  have el : z.cps.size = (tl z).length := by simp [tl]
  refine lc_it walk_str (fun i H' => Same H1 H' ∧ H' D = some (.lst (((tl z).take i).map f))) ⟨same_new hD, by rw [upd_same]; rfl⟩ (fun _ _ _ _ => trivial) (fun i x H H' hi hP hY => ?_) (fun H' hP => ?_)
  · obtain ⟨rfl, c, hc, rfl⟩ := hY
    obtain ⟨sm, hl⟩ := hP
    have hc2 : (tl z)[i]? = some c := by
      have q : z.cps.toList[i]? = z.cps[i]? := by simp
      exact q.trans hc
    refine ⟨hw _, ?_⟩
    dsimp only [tYes]
    rw [if_pos rfl]
    refine he c (List.mem_of_getElem? hc2) _ _ sm ?_
    refine ⟨_, hl, ?_, ?_, ?_⟩
    · rw [List.length_map, List.length_take]
      have := len_tl z
      exact szl (by omega)
    · exact Same.upd_new sm hD
    · rw [upd_same, List.take_add_one, hc2, List.map_append]
      rfl
  · obtain ⟨sm, hl⟩ := hP
    refine hd H' sm ?_
    rw [el, List.take_length] at hl
    exact hl
theorem yes_go {σ : L2.St} {H : Hp} {A B : Hp → Prop} (h : A H) : tYes σ H (fun b H3 => if b = true then A H3 else B H3) := h
theorem len_app (a b : Str) : (a ++ b).length = a.length + b.length := PySem.Str.length_append a b
theorem join1_len : ∀ cs : List Nat, (TL.joinL [] (cs.map fun c => [c])) = cs
  | [] => rfl
  | [c] => rfl
  | c :: e :: r => by
    have ih := join1_len (e :: r)
    show [c] ++ ([] ++ TL.joinL [] ((e :: r).map fun c => [c])) = c :: e :: r
    rw [ih]
    rfl
/-- ''.join of signs -/
theorem join_signs (cs : List Nat) : Txt.join "" (cs.map fun c => S [c]) = S cs := by
  have e := SX.join_S [] (cs.map fun c => [c])
  rw [join1_len, List.map_map] at e
  exact e
theorem sum_ones : ∀ cs : List Nat, ((cs.map fun c => S [c]).map (·.length)).sum = cs.length
  | [] => rfl
  | c :: r => by
    rw [List.map_cons, List.map_cons, List.sum_cons, sum_ones r, len_S, List.length_cons, List.length_cons]
    simp
    omega
theorem cutS_len (z : Str) (lo hi : Option Int) : (cutS z lo hi).length ≤ z.length := by
  unfold cutS
  rw [len_S, List.length_take, List.length_drop]
  have := len_tl z
  unfold tl at this
  omega
/-! ### rules with the written part by its name, for a comprehension's block -/
section
variable {X : Cx} {K : PySem.W.Frag}
theorem ix_listK (h : X.K = K) : IxR X (rIxL K) := h ▸ ix_list
theorem ix_tupK (h : X.K = K) : IxR X (rIxT K) := h ▸ ix_tup
theorem ix_seqK (h : X.K = K) : IxR X (rIx K) := h ▸ ix_seq
theorem op_in_seqK (h : X.K = K) : OpR X (compareOp .In) (rIn K false) := h ▸ op_in_seq
theorem op_notIn_seqK (h : X.K = K) : OpR X (compareOp .NotIn) (rIn K true) := h ▸ op_notIn_seq
theorem op_eqDK (h : X.K = K) (hu : X.A.units + 64 < cLine) : OpR X (compareOp .Eq) (rEqD K) := h ▸ op_eqD hu
theorem op_neDK (h : X.K = K) (hu : X.A.units + 64 < cLine) : OpR X (compareOp .NotEq) (rNeD K) := h ▸ op_neD hu
theorem sl_listK (h : X.K = K) : SlR X (rSlL K) := h ▸ sl_list
theorem call_len_seqK (h : X.K = K) : CallR X (.builtin "len") (fun xs H Q => ∃ p ys, xs = [.ref p] ∧ (SqL K H p ys ∨ SqT K H p ys) ∧ Q (.int ys.length) H) := by
  subst h
  exact call_len_seq
end
end OG

set_option Elab.async false
set_option linter.all false
set_option maxRecDepth 100000
set_option maxHeartbeats 4000000
namespace OG
open PySem PySem.Spec PyProof.Rows L2
/-! ### text * number -/
def rRepS : R2 := fun x y H Q => ∃ (z : Str) (k : Int), x = .str z ∧ y = .int k ∧ -(2 ^ 62) ≤ k ∧ k < 2 ^ 62 ∧ z.length * k.toNat ≤ 100000 ∧ Q (.str (S (List.replicate k.toNat (tl z)).flatten)) H
theorem fold_rep (a : Array Nat) : ∀ (k : Nat) (acc : Array Nat), (List.foldl (fun x y => x ++ y) acc (List.replicate k a)) = acc ++ (List.replicate k a.toList).flatten.toArray
  | 0, acc => by simp
  | k + 1, acc => by
    rw [List.replicate_succ, List.foldl_cons, fold_rep a k (acc ++ a), List.replicate_succ, List.flatten_cons, Array.append_assoc]
    congr 1
    apply Array.ext'
    simp
theorem op_repS {X : Cx} : OpR X (binaryOp .Mult) rRepS := by
  intro pins s σ H x y v u Q I rx ry h
  obtain ⟨z, k, rfl, rfl, h1, h2, hz, q⟩ := h
  obtain ⟨t, rfl⟩ := rx
  obtain ⟨t', rfl⟩ := ry
  refine PySem.P.mul_str ?_ (fun a b => ?_) (fun a b => ?_) ?_
  · rw [decide_eq_false (by omega), decide_eq_false (by omega)]; rfl
  · have hk : 0 < k := by omega
    have e : ((z.length * k.toNat : Nat) : Int) ≤ 100000 := Int.ofNat_le.mpr hz
    have e2 : ((z.length * k.toNat : Nat) : Int) = (z.length : Int) * k := by
      rw [Int.natCast_mul, Int.toNat_of_nonneg (by omega)]
    intro hc
    have h3 : (z.length : Int) ≤ (2 ^ 63 - 1) / k := by
      rw [Int.le_ediv_iff_mul_le hk]
      rw [← e2]
      omega
    omega
  · unfold PySem.Builtin.Str.tooLong
    exact decide_eq_false (Nat.not_lt.mpr (sz hz))
  · by_cases c1 : k < 1
    · rw [if_pos c1]
      have e : k.toNat = 0 := by omega
      rw [e] at q
      exact ⟨by decide, .str Str.empty, H, I.tok _, ⟨_, rfl⟩, q⟩
    · rw [if_neg c1]
      by_cases c2 : (k == 1 || z.length == 0) = true
      · rw [if_pos c2]
        have e : S (List.replicate k.toNat (tl z)).flatten = z := by
          rcases Bool.or_eq_true_iff.mp c2 with c3 | c3
          · have e1 : k = 1 := by simpa using c3
            rw [e1]
            show S ((tl z) ++ []) = z
            rw [List.append_nil, S_tl]
          · have e1 : z.length = 0 := by simpa using c3
            have e2 : tl z = [] := List.eq_nil_of_length_eq_zero (by rw [← len_tl]; exact e1)
            have e3 : ∀ n : Nat, (List.replicate n ([] : List Nat)).flatten = [] := fun n => by
              induction n with
              | zero => rfl
              | succ n ih => rw [List.replicate_succ, List.flatten_cons, ih]; rfl
            rw [e2, e3, ← e2, S_tl]
        rw [e] at q
        exact ⟨.str z, H, I, ⟨_, rfl⟩, q⟩
      · rw [if_neg c2]
        have e : (⟨(List.replicate k.toNat z.cps).foldl (· ++ ·) #[]⟩ : Str) = S (List.replicate k.toNat (tl z)).flatten := by
          have := fold_rep z.cps k.toNat #[]
          rw [this]
          simp [S, tl]
        rw [e]
        refine ⟨?_, .str _, H, I.tok _, ⟨_, rfl⟩, q⟩
        have : (S (List.replicate k.toNat (tl z)).flatten).length ≤ 100000 := by
          rw [len_S, List.length_flatten]
          rw [List.map_replicate, List.sum_replicate_nat, Nat.mul_comm]
          rw [← len_tl]
          exact hz
        first
          | exact sz this
          | (unfold PySem.Builtin.Str.tooLong; exact decide_eq_false (Nat.not_lt.mpr (sz this)))
          | (show _ = _; unfold PySem.Builtin.Str.tooLong; exact decide_eq_false (Nat.not_lt.mpr (sz this)))
end OG

set_option Elab.async false
set_option linter.all false
set_option maxRecDepth 100000
set_option maxHeartbeats 4000000
namespace OG
open PySem PySem.Spec PyProof.Rows L2

/-! ### data of tuples -/
inductive D where
  | non
  | bl (b : Bool)
  | int (n : Int)
  | str (z : Str)
  | tup (xs : List D)
mutual
/-- v stands for the datum -/
def Rp (H : Hp) : V → D → Prop
  | v, .non => v = .non
  | v, .bl b => v = .bl b
  | v, .int n => v = .int n
  | v, .str z => v = .str z
  | v, .tup xs => ∃ (a : Addr) (vs : List V), v = .ref a ∧ H a = some (.tup vs) ∧ RpL H vs xs
def RpL (H : Hp) : List V → List D → Prop
  | vs, [] => vs = []
  | vs, x :: xs => ∃ (v : V) (r : List V), vs = v :: r ∧ Rp H v x ∧ RpL H r xs
end
/-- tuples stay -/
def Imm (H H' : Hp) : Prop := ∀ b xs, H b = some (.tup xs) → H' b = some (.tup xs)
theorem Imm.refl (H : Hp) : Imm H H := fun _ _ h => h
theorem Imm.trans {H H1 H2 : Hp} (a : Imm H H1) (b : Imm H1 H2) : Imm H H2 := fun c xs h => b c xs (a c xs h)
theorem Imm.same {H H' : Hp} (a : Same H H') : Imm H H' := fun b xs h => a b _ h
theorem Imm.upd {H H' : Hp} {p : Addr} {o : HO} (a : Imm H H') (n : ∀ xs, H p ≠ some (.tup xs)) : Imm H (upd H' p o) := fun b xs h => by
  have e : b ≠ p := fun z => n xs (by rw [← z]; exact h)
  rw [upd_ne e]
  exact a b xs h
theorem Imm.but {H H' : Hp} {d : Addr} {l : List V} (a : But d H H') (h : H d = some (.lst l)) : Imm H H' := fun b xs e => by
  have n : b ≠ d := fun z => by
    rw [z, h] at e
    cases e
  rw [a b n]
  exact e
theorem Dr.imm {H H' : Hp} {d L : Addr} (h : Dr H d L) (a : But d H H') : Imm H H' := by
  obtain ⟨ns, i, r, s, hd, _⟩ := h
  exact Imm.but a hd
mutual
theorem Rp.imm {H H' : Hp} (m : Imm H H') : ∀ (x : D) (v : V), Rp H v x → Rp H' v x
  | .non, _, h => h
  | .bl _, _, h => h
  | .int _, _, h => h
  | .str _, _, h => h
  | .tup xs, _, h => by
    obtain ⟨a, vs, e, q, r⟩ := h
    exact ⟨a, vs, e, m _ _ q, RpL.imm m xs vs r⟩
theorem RpL.imm {H H' : Hp} (m : Imm H H') : ∀ (xs : List D) (vs : List V), RpL H vs xs → RpL H' vs xs
  | [], _, h => h
  | x :: xs, _, h => by
    obtain ⟨v, r, e, q, t⟩ := h
    exact ⟨v, r, e, Rp.imm m x v q, RpL.imm m xs r t⟩
end
theorem Rp.to {H H' : Hp} {x : D} {v : V} (h : Rp H v x) (m : Imm H H') : Rp H' v x := Rp.imm m x v h
theorem RpL.to {H H' : Hp} {xs : List D} {vs : List V} (h : RpL H vs xs) (m : Imm H H') : RpL H' vs xs := RpL.imm m xs vs h
theorem RpL.length {H : Hp} : ∀ {xs : List D} {vs : List V}, RpL H vs xs → vs.length = xs.length
  | [], _, h => by rw [show _ = [] from h]; rfl
  | x :: xs, _, h => by
    obtain ⟨v, r, e, _, t⟩ := h
    rw [e, List.length_cons, List.length_cons, RpL.length t]
theorem RpL.get {H : Hp} : ∀ {xs : List D} {vs : List V} {i : Nat} {v : V}, RpL H vs xs → vs[i]? = some v → ∃ x, xs[i]? = some x ∧ Rp H v x
  | [], _, i, v, h, g => by
    rw [show _ = [] from h] at g
    simp at g
  | x :: xs, _, 0, v, h, g => by
    obtain ⟨u, r, e, q, t⟩ := h
    rw [e] at g
    have : u = v := Option.some.inj g
    exact ⟨x, rfl, this ▸ q⟩
  | x :: xs, _, i + 1, v, h, g => by
    obtain ⟨u, r, e, q, t⟩ := h
    rw [e] at g
    exact RpL.get (xs := xs) (i := i) t g
theorem RpL.append {H : Hp} : ∀ {xs ys : List D} {vs ws : List V}, RpL H vs xs → RpL H ws ys → RpL H (vs ++ ws) (xs ++ ys)
  | [], _, _, _, h, k => by rw [show _ = [] from h]; exact k
  | x :: xs, ys, _, ws, h, k => by
    obtain ⟨u, r, e, q, t⟩ := h
    rw [e]
    exact ⟨u, r ++ ws, rfl, q, RpL.append t k⟩
theorem RpL.take {H : Hp} : ∀ {xs : List D} {vs : List V} (n : Nat), RpL H vs xs → RpL H (vs.take n) (xs.take n)
  | _, _, 0, _ => rfl
  | [], _, n + 1, h => by rw [show _ = [] from h]; rfl
  | x :: xs, _, n + 1, h => by
    obtain ⟨u, r, e, q, t⟩ := h
    rw [e]
    exact ⟨u, r.take n, rfl, q, RpL.take n t⟩
theorem RpL.drop {H : Hp} : ∀ {xs : List D} {vs : List V} (n : Nat), RpL H vs xs → RpL H (vs.drop n) (xs.drop n)
  | _, _, 0, h => h
  | [], _, n + 1, h => by rw [show _ = [] from h]; rfl
  | x :: xs, _, n + 1, h => by
    obtain ⟨u, r, e, q, t⟩ := h
    rw [e]
    exact RpL.drop n t
theorem rpl_nil {H : Hp} : RpL H [] [] := rfl
theorem rpl_cons {H : Hp} {v : V} {vs : List V} {x : D} {xs : List D} (h : Rp H v x) (t : RpL H vs xs) : RpL H (v :: vs) (x :: xs) := ⟨v, vs, rfl, h, t⟩
theorem rp_tup {H : Hp} {a : Addr} {vs : List V} {xs : List D} (h : H a = some (.tup vs)) (t : RpL H vs xs) : Rp H (.ref a) (.tup xs) := ⟨a, vs, rfl, h, t⟩
theorem rp_t2 {H : Hp} {v : V} {x y : D} (h : Rp H v (.tup [x, y])) : ∃ a v1 v2, v = .ref a ∧ H a = some (.tup [v1, v2]) ∧ Rp H v1 x ∧ Rp H v2 y := by
  obtain ⟨a, vs, e, q, v1, r1, rfl, h1, v2, r2, rfl, h2, rfl⟩ := h
  exact ⟨a, v1, v2, e, q, h1, h2⟩
theorem rp_t3 {H : Hp} {v : V} {x y z : D} (h : Rp H v (.tup [x, y, z])) : ∃ a v1 v2 v3, v = .ref a ∧ H a = some (.tup [v1, v2, v3]) ∧ Rp H v1 x ∧ Rp H v2 y ∧ Rp H v3 z := by
  obtain ⟨a, vs, e, q, v1, r1, rfl, h1, v2, r2, rfl, h2, v3, r3, rfl, h3, rfl⟩ := h
  exact ⟨a, v1, v2, v3, e, q, h1, h2, h3⟩
theorem rp_t5 {H : Hp} {v : V} {x y z u w : D} (h : Rp H v (.tup [x, y, z, u, w])) : ∃ a v1 v2 v3 v4 v5, v = .ref a ∧ H a = some (.tup [v1, v2, v3, v4, v5]) ∧ Rp H v1 x ∧ Rp H v2 y ∧ Rp H v3 z ∧ Rp H v4 u ∧ Rp H v5 w := by
  obtain ⟨a, vs, e, q, v1, r1, rfl, h1, v2, r2, rfl, h2, v3, r3, rfl, h3, v4, r4, rfl, h4, v5, r5, rfl, h5, rfl⟩ := h
  exact ⟨a, v1, v2, v3, v4, v5, e, q, h1, h2, h3, h4, h5⟩

/-! ### names -/
def kept : List Str := ["step", "for", "from", "to", "if", "else", "double", "call", "with", "again", "on", "halves", "thirds", "less", "n"]
theorem kept_split : (Txt.split "step for from to if else double call with again on halves thirds less n" " ") = kept := by decide +kernel
def spKept : Sp := fun vs H Q _ => vs = [] ∧ ∀ (p : Addr) (H' : Hp), H p = none → H' = upd H p (.lst (kept.map V.str)) → Q (.ref p) H'
def abc : List Nat := tl "abcdefghijklmnopqrstuvwxyz"
/-- whether a text is a name -/
def nameB (z : Str) : Bool := (!inV (.str z) (kept.map V.str) && (decide ((1 : Int) ≤ (z.length : Int)) && decide ((z.length : Int) ≤ 8))) && ((tl z).map (fun c => decide (c ∈ tl "abcdefghijklmnopqrstuvwxyz"))).all id
def spName : Sp := fun vs H Q _ => ∃ z : Str, vs = [.str z] ∧ z.length < 100000 ∧ ∀ H', Same H H' → Q (.bl (nameB z)) H'
theorem inV_str (z : Str) : ∀ ys : List Str, inV (.str z) (ys.map V.str) = decide (z ∈ ys)
  | [] => rfl
  | y :: r => by
    have ih := inV_str z r
    unfold inV at ih ⊢
    rw [List.map_cons, List.any_cons, ih]
    show ((y == z) || decide (z ∈ r)) = decide (z ∈ y :: r)
    by_cases h : y = z
    · subst h
      simp
    · have h2 : (y == z) = false := by simpa using h
      have h3 : ¬ z = y := fun e => h e.symm
      rw [h2, Bool.false_or]
      by_cases h4 : z ∈ r
      · rw [decide_eq_true h4, decide_eq_true (List.mem_cons_of_mem _ h4)]
      · rw [decide_eq_false h4, decide_eq_false (fun h5 => (List.mem_cons.mp h5).elim h3 h4)]
theorem name_of {cs : List Nat} (h0 : 1 ≤ cs.length) (h8 : cs.length ≤ 8) (hk : S cs ∉ kept) (hc : ∀ c ∈ cs, c ∈ abc) : nameB (S cs) = true := by
  unfold nameB
  rw [inV_str, decide_eq_false hk, len_S]
  rw [decide_eq_true (by omega), decide_eq_true (by omega)]
  have : ((tl (S cs)).map (fun c => decide (c ∈ tl "abcdefghijklmnopqrstuvwxyz"))).all id = true := by
    rw [List.all_eq_true]
    intro b hb
    obtain ⟨c, hc2, rfl⟩ := List.mem_map.mp hb
    exact decide_eq_true (hc c hc2)
  rw [this]
  rfl
theorem name_len {z : Str} (h : nameB z = true) : 1 ≤ z.length ∧ z.length ≤ 8 := by
  unfold nameB at h
  simp only [Bool.and_eq_true, decide_eq_true_eq] at h
  omega
theorem name_abc {z : Str} (h : nameB z = true) : ∀ c ∈ tl z, c ∈ abc := by
  unfold nameB at h
  have h2 := (Bool.and_eq_true_iff.mp h).2
  rw [List.all_eq_true] at h2
  intro c hc
  exact of_decide_eq_true (h2 _ (List.mem_map.mpr ⟨c, hc, rfl⟩))
theorem name_kept {z : Str} (h : nameB z = true) : z ∉ kept := by
  unfold nameB at h
  rw [inV_str] at h
  intro hk
  rw [decide_eq_true hk] at h
  cases h
theorem name_two : ∀ c ∈ abc, nameB (S [c, c]) = true := by
  have h : abc.all (fun c => nameB (S [c, c])) = true := by decide +kernel
  exact fun c hc => List.all_eq_true.mp h c hc

/-! ### plans -/
inductive Thing where
  | step (k : Int)
  | loop (x : Str) (a b : Str × Int) (body : List Thing)
  | test (a b : Str × Int) (x y : List Thing)
  | twice (body : List Thing)
  | call (x : Str) (e : Str × Int)
  | again (k : Int) (w : Str)
def encE (e : Str × Int) : D := .tup [.str e.1, .int e.2]
mutual
def enc : Thing → D
  | .step k => .tup [.str "step", .int k]
  | .loop x a b body => .tup [.str "for", .str x, encE a, encE b, .tup (encs body)]
  | .test a b x y => .tup [.str "if", encE a, encE b, .tup (encs x), .tup (encs y)]
  | .twice b => .tup [.str "double", .tup (encs b)]
  | .call x e => .tup [.str "call", .str x, encE e]
  | .again k w => .tup [.str "again", .int k, .str w]
def encs : List Thing → List D
  | [] => []
  | t :: r => enc t :: encs r
end
theorem encs_map : ∀ ts : List Thing, encs ts = ts.map enc
  | [] => rfl
  | t :: r => by
    show enc t :: encs r = enc t :: r.map enc
    rw [encs_map r]
theorem encs_append (a b : List Thing) : encs (a ++ b) = encs a ++ encs b := by rw [encs_map, encs_map, encs_map, List.map_append]
theorem encs_length (ts : List Thing) : (encs ts).length = ts.length := by rw [encs_map, List.length_map]
/-- an end that may stand where the names sc may -/
def EndOk (sc : List Str) (e : Str × Int) : Prop := (e.1 = "" ∧ 0 ≤ e.2 ∧ e.2 ≤ 99) ∨ (e.1 ∈ sc ∧ -99 ≤ e.2 ∧ e.2 ≤ 99)
def ScOk (sc : List Str) : Prop := ∀ x ∈ sc, x = "n" ∨ nameB x = true
def AgOk (k : Int) (w : Str) : Prop := 1 ≤ k ∧ k ≤ 9 ∧ (w = "halves" ∨ w = "thirds" ∨ w = "less")
mutual
/-- a thing with at most n brackets within one another, calling only what C tells; again only where A does -/
def TOk (C : Str → Prop) (A : Prop) : List Str → Nat → Thing → Prop
  | _, _, .step k => 0 ≤ k ∧ k ≤ 99
  | sc, n, .loop x a b body => nameB x = true ∧ x ∉ sc ∧ EndOk sc a ∧ EndOk sc b ∧ body ≠ [] ∧ ∃ m, n = m + 1 ∧ TsOk C A (sc ++ [x]) m body
  | sc, n, .test a b x y => EndOk sc a ∧ EndOk sc b ∧ x ≠ [] ∧ ∃ m, n = m + 1 ∧ TsOk C A sc m x ∧ TsOk C A sc m y
  | sc, n, .twice b => b ≠ [] ∧ ∃ m, n = m + 1 ∧ TsOk C A sc m b
  | sc, _, .call x e => nameB x = true ∧ C x ∧ EndOk sc e
  | _, _, .again k w => A ∧ AgOk k w
def TsOk (C : Str → Prop) (A : Prop) : List Str → Nat → List Thing → Prop
  | _, _, [] => True
  | sc, n, t :: r => TOk C A sc n t ∧ TsOk C A sc n r
end
theorem tsok_iff {C : Str → Prop} {A : Prop} {sc : List Str} {n : Nat} : ∀ ts : List Thing, TsOk C A sc n ts ↔ ∀ t ∈ ts, TOk C A sc n t
  | [] => ⟨fun _ _ h => (by cases h), fun _ => trivial⟩
  | t :: r => by
    show (TOk C A sc n t ∧ TsOk C A sc n r) ↔ _
    rw [tsok_iff r]
    constructor
    · rintro ⟨h1, h2⟩ u hu
      rcases List.mem_cons.mp hu with rfl | hu
      · exact h1
      · exact h2 u hu
    · intro h
      exact ⟨h t List.mem_cons_self, fun u hu => h u (List.mem_cons_of_mem _ hu)⟩
mutual
def cntT : Thing → Nat
  | .step _ => 1
  | .loop _ _ _ b => 1 + cntB b
  | .test _ _ x y => 1 + cntB x + cntB y
  | .twice b => 1 + cntB b
  | .call _ _ => 1
  | .again _ _ => 1
def cntB : List Thing → Nat
  | [] => 0
  | t :: r => cntT t + cntB r
end
theorem cntB_append : ∀ a b : List Thing, cntB (a ++ b) = cntB a + cntB b
  | [], b => by show cntB b = 0 + cntB b; omega
  | t :: r, b => by
    show cntT t + cntB (r ++ b) = cntT t + cntB r + cntB b
    rw [cntB_append r b]
    omega

/-! ### a plan's text -/
def numL (i : Int) : List Nat := tl (toString i)
def endL (e : Str × Int) : List Nat :=
  if e.1 = "" then numL e.2 else if e.2 = 0 then tl e.1 else if 0 < e.2 then tl e.1 ++ tl " + " ++ numL e.2 else tl e.1 ++ tl " - " ++ numL (-e.2)
mutual
def thingL : Thing → List Nat
  | .step k => tl "step " ++ numL k
  | .loop x a b body => tl "for " ++ tl x ++ tl " from " ++ endL a ++ tl " to " ++ endL b ++ tl " (" ++ TL.joinL (tl "; ") (thingsL body) ++ tl ")"
  | .test a b x y => tl "if " ++ endL a ++ tl " <= " ++ endL b ++ tl " (" ++ TL.joinL (tl "; ") (thingsL x) ++ tl ")" ++ (match y with
    | [] => []
    | t :: r => tl " else (" ++ TL.joinL (tl "; ") (thingsL (t :: r)) ++ tl ")")
  | .twice b => tl "double (" ++ TL.joinL (tl "; ") (thingsL b) ++ tl ")"
  | .call x e => tl "call " ++ tl x ++ tl " with " ++ endL e
  | .again k w => tl "again " ++ numL k ++ tl " on " ++ tl w
def thingsL : List Thing → List (List Nat)
  | [] => []
  | t :: r => thingL t :: thingsL r
end
def planL (ts : List Thing) : List Nat := TL.joinL (tl "; ") (thingsL ts)
theorem thingsL_map : ∀ ts : List Thing, thingsL ts = ts.map thingL
  | [] => rfl
  | t :: r => by
    show thingL t :: thingsL r = thingL t :: r.map thingL
    rw [thingsL_map r]
theorem str_ext {a b : Str} (h : tl a = tl b) : a = b := by rw [← S_tl a, ← S_tl b, h]
theorem tl_app (a b : Str) : tl (a ++ b) = tl a ++ tl b := TL.tl_append a b
theorem tl_empty : tl Str.empty = [] := rfl
/-! sizes -/
theorem num_small {i : Int} (h0 : -99 ≤ i) (h1 : i ≤ 99) : (numL i).length ≤ 3 ∧ i.natAbs.log2 < 1920 := by
  have e : ∀ n : Nat, n < 199 → (numL ((n : Int) - 99)).length ≤ 3 ∧ ((n : Int) - 99).natAbs.log2 < 1920 := by
    have h : (List.range 199).all (fun n => decide ((numL ((n : Int) - 99)).length ≤ 3) && decide (((n : Int) - 99).natAbs.log2 < 1920)) = true := by decide +kernel
    intro n hn
    have := List.all_eq_true.mp h n (List.mem_range.mpr hn)
    simpa only [Bool.and_eq_true, decide_eq_true_eq] using this
  have q := e (i + 99).toNat (by omega)
  have e2 : (((i + 99).toNat : Nat) : Int) - 99 = i := by omega
  rw [e2] at q
  exact q
theorem end_small {sc : List Str} {e : Str × Int} (hs : ScOk sc) (h : EndOk sc e) : (endL e).length ≤ 14 ∧ e.1.length ≤ 8 ∧ -99 ≤ e.2 ∧ e.2 ≤ 99 := by
  have hl : e.1.length ≤ 8 ∧ -99 ≤ e.2 ∧ e.2 ≤ 99 := by
    rcases h with ⟨h1, h2, h3⟩ | ⟨h1, h2, h3⟩
    · rw [h1]
      exact ⟨by decide +kernel, by omega, h3⟩
    · rcases hs _ h1 with h4 | h4
      · rw [h4]
        exact ⟨by decide +kernel, h2, h3⟩
      · exact ⟨(name_len h4).2, h2, h3⟩
  refine ⟨?_, hl⟩
  have n1 := (num_small hl.2.1 hl.2.2).1
  have n2 := (num_small (i := -e.2) (by omega) (by omega)).1
  have l1 := len_tl e.1
  have p1 : (tl " + ").length = 3 := by decide +kernel
  have p2 : (tl " - ").length = 3 := by decide +kernel
  unfold endL
  split
  · omega
  · split
    · omega
    · split
      · rw [List.length_append, List.length_append]
        omega
      · rw [List.length_append, List.length_append]
        omega
end OG

set_option Elab.async false
set_option linter.all false
set_option maxRecDepth 100000
set_option maxHeartbeats 4000000
namespace OG
open PySem PySem.Spec PyProof.Rows L2
/-! ### sizes of texts -/
theorem joinL_len (s : List Nat) : ∀ ls : List (List Nat), (TL.joinL s ls).length ≤ (ls.map (fun l => l.length + s.length)).sum
  | [] => Nat.le_refl _
  | [p] => by
    show p.length ≤ (p.length + s.length) + 0
    omega
  | p :: q :: r => by
    have ih := joinL_len s (q :: r)
    show (p ++ (s ++ TL.joinL s (q :: r))).length ≤ (p.length + s.length) + ((q :: r).map (fun l => l.length + s.length)).sum
    rw [List.length_append, List.length_append]
    omega
theorem scOk_snoc {sc : List Str} {x : Str} (h : ScOk sc) (n : nameB x = true) : ScOk (sc ++ [x]) := fun y hy => by
  rcases List.mem_append.mp hy with h1 | h1
  · exact h y h1
  · rw [List.mem_singleton.mp h1]
    exact .inr n
mutual
theorem thing_size {C : Str → Prop} {A : Prop} : ∀ (t : Thing) (sc : List Str) (n : Nat), TOk C A sc n t → ScOk sc → (thingL t).length + 2 ≤ 80 * cntT t
  | .step k, sc, n, h, hs => by
    have e := (num_small (i := k) (by have := h.1; omega) h.2).1
    have c : (tl "step ").length = 5 := by decide +kernel
    show (tl "step " ++ numL k).length + 2 ≤ 80 * 1
    rw [List.length_append]
    omega
  | .loop x a b body, sc, n, h, hs => by
    obtain ⟨h1, h2, h3, h4, h5, m, rfl, h6⟩ := h
    have hn := name_len h1
    have e1 := (end_small hs h3).1
    have e2 := (end_small hs h4).1
    have ih := things_size body _ _ h6 (scOk_snoc hs h1)
    have j := joinL_len (tl "; ") (thingsL body)
    have c0 : (tl "; ").length = 2 := by decide +kernel
    have c1 : (tl "for ").length = 4 := by decide +kernel
    have c2 : (tl " from ").length = 6 := by decide +kernel
    have c3 : (tl " to ").length = 4 := by decide +kernel
    have c4 : (tl " (").length = 2 := by decide +kernel
    have c5 : (tl ")").length = 1 := by decide +kernel
    have l := len_tl x
    rw [c0] at j
    show (tl "for " ++ tl x ++ tl " from " ++ endL a ++ tl " to " ++ endL b ++ tl " (" ++ TL.joinL (tl "; ") (thingsL body) ++ tl ")").length + 2 ≤ 80 * (1 + cntB body)
    simp only [List.length_append]
    omega
  | .test a b x y, sc, n, h, hs => by
    obtain ⟨h3, h4, h5, m, rfl, h6, h7⟩ := h
    have e1 := (end_small hs h3).1
    have e2 := (end_small hs h4).1
    have ih := things_size x _ _ h6 hs
    have j := joinL_len (tl "; ") (thingsL x)
    have ih2 := things_size y _ _ h7 hs
    have j2 := joinL_len (tl "; ") (thingsL y)
    have c0 : (tl "; ").length = 2 := by decide +kernel
    have c1 : (tl "if ").length = 3 := by decide +kernel
    have c2 : (tl " <= ").length = 4 := by decide +kernel
    have c4 : (tl " (").length = 2 := by decide +kernel
    have c5 : (tl ")").length = 1 := by decide +kernel
    have c6 : (tl " else (").length = 7 := by decide +kernel
    rw [c0] at j j2
    cases y with
    | nil =>
      show (tl "if " ++ endL a ++ tl " <= " ++ endL b ++ tl " (" ++ TL.joinL (tl "; ") (thingsL x) ++ tl ")" ++ []).length + 2 ≤ 80 * (1 + cntB x + 0)
      simp only [List.length_append, List.length_nil]
      omega
    | cons t r =>
      show (tl "if " ++ endL a ++ tl " <= " ++ endL b ++ tl " (" ++ TL.joinL (tl "; ") (thingsL x) ++ tl ")" ++ (tl " else (" ++ TL.joinL (tl "; ") (thingsL (t :: r)) ++ tl ")")).length + 2 ≤ 80 * (1 + cntB x + cntB (t :: r))
      simp only [List.length_append]
      omega
  | .twice b, sc, n, h, hs => by
    obtain ⟨h5, m, rfl, h6⟩ := h
    have ih := things_size b _ _ h6 hs
    have j := joinL_len (tl "; ") (thingsL b)
    have c0 : (tl "; ").length = 2 := by decide +kernel
    have c1 : (tl "double (").length = 8 := by decide +kernel
    have c5 : (tl ")").length = 1 := by decide +kernel
    rw [c0] at j
    show (tl "double (" ++ TL.joinL (tl "; ") (thingsL b) ++ tl ")").length + 2 ≤ 80 * (1 + cntB b)
    simp only [List.length_append]
    omega
  | .call x e, sc, n, h, hs => by
    have e1 := (end_small hs h.2.2).1
    have hn := name_len h.1
    have c1 : (tl "call ").length = 5 := by decide +kernel
    have c2 : (tl " with ").length = 6 := by decide +kernel
    have l := len_tl x
    show (tl "call " ++ tl x ++ tl " with " ++ endL e).length + 2 ≤ 80 * 1
    simp only [List.length_append]
    omega
  | .again k w, sc, n, h, hs => by
    obtain ⟨_, h1, h2, h3⟩ := h
    have e := (num_small (i := k) (by omega) (by omega)).1
    have c1 : (tl "again ").length = 6 := by decide +kernel
    have c2 : (tl " on ").length = 4 := by decide +kernel
    have c3 : (tl w).length ≤ 6 := by
      rcases h3 with rfl | rfl | rfl
      · decide +kernel
      · decide +kernel
      · decide +kernel
    show (tl "again " ++ numL k ++ tl " on " ++ tl w).length + 2 ≤ 80 * 1
    simp only [List.length_append]
    omega
theorem things_size {C : Str → Prop} {A : Prop} : ∀ (ts : List Thing) (sc : List Str) (n : Nat), TsOk C A sc n ts → ScOk sc → ((thingsL ts).map (fun l => l.length + 2)).sum ≤ 80 * cntB ts
  | [], _, _, _, _ => Nat.le_refl _
  | t :: r, sc, n, h, hs => by
    have h1 := thing_size t sc n h.1 hs
    have h2 := things_size r sc n h.2 hs
    show ((thingL t).length + 2) + ((thingsL r).map (fun l => l.length + 2)).sum ≤ 80 * (cntT t + cntB r)
    omega
end
theorem plan_size {C : Str → Prop} {A : Prop} {ts : List Thing} {sc : List Str} {n : Nat} (h : TsOk C A sc n ts) (hs : ScOk sc) : (planL ts).length ≤ 80 * cntB ts := by
  have j := joinL_len (tl "; ") (thingsL ts)
  have c0 : (tl "; ").length = 2 := by decide +kernel
  rw [c0] at j
  exact Nat.le_trans j (things_size ts sc n h hs)
theorem cnt_pos : ∀ t : Thing, 1 ≤ cntT t
  | .step _ => Nat.le_refl _
  | .loop _ _ _ b => Nat.le_add_right _ _
  | .test _ _ x y => by show 1 ≤ 1 + cntB x + cntB y; omega
  | .twice b => Nat.le_add_right _ _
  | .call _ _ => Nat.le_refl _
  | .again _ _ => Nat.le_refl _
theorem cnt_len : ∀ ts : List Thing, ts.length ≤ cntB ts
  | [] => Nat.le_refl _
  | t :: r => by
    have h1 := cnt_pos t
    have h2 := cnt_len r
    show r.length + 1 ≤ cntT t + cntB r
    omega
theorem cnt_mem {t : Thing} : ∀ {ts : List Thing}, t ∈ ts → cntT t ≤ cntB ts
  | [], h => by cases h
  | u :: r, h => by
    show cntT t ≤ cntT u + cntB r
    rcases List.mem_cons.mp h with rfl | h
    · omega
    · have := cnt_mem h
      omega
/-! ### a comprehension over a tuple, its element a call that leaves all as it was -/
theorem lc_tup_map {K : PySem.W.Frag} {a : Addr} {xs : List V} {g : TG} {te : TE} {vs : List Nat} {σ : L2.St} {H1 : Hp} {D : Addr} {Qd : Hp → Prop} (ys : List V) (i0 : Nat) (hg : g = gName i0) (hw : ∀ v, wipe ((wipe σ vs).set i0 v) vs = wipe σ vs)
    (hlen : ys.length = xs.length) (hz : xs.length < 100000) (hS : H1 a = some (.tup xs)) (hD : H1 D = none)
    (he : ∀ (i : Nat) (x y : V) (H2 : Hp) (Q : VK), xs[i]? = some x → ys[i]? = some y → Same H1 H2 → (∀ H3, Same H2 H3 → Q y H3) → te ((wipe σ vs).set i0 (some x)) H2 Q)
    (hd : ∀ H', Same H1 H' → H' D = some (.lst ys) → Qd H') :
    ∃ W : Nat → Nat → Hp → Prop, (∃ m, W 0 m (upd H1 D (.lst []))) ∧ ∀ i m H, W i m H →
      ((Itt K a).stop i H ∧ Qd H) ∨ ((Itt K a).go i H ∧ ∃ Nx : Hp → Prop, (∀ H', Nx H' → ∃ m', m' < m ∧ W (i + 1) m' H') ∧ ∀ x H', (Itt K a).yld i H x H' → g x (wipe σ vs) H' fun σ2 H2 => wipe σ2 vs = wipe σ vs ∧ tYes σ2 H2 fun b H3 =>
        if b = true then te σ2 H3 fun y H4 => ∃ acc, H4 D = some (.lst acc) ∧ acc.length < sizeLine ∧ Nx (upd H4 D (.lst (acc ++ [y]))) else Nx H3) := by
  subst hg
  refine lc_tup (xs := xs) (fun i H' => Same H1 H' ∧ H' D = some (.lst (ys.take i))) ⟨same_new hD, upd_same⟩ (fun i H' hi hP => SqT.of (hP.1 _ _ hS)) (fun i x H' hx hP => ?_) (fun H' hP => ?_)
  · obtain ⟨sm, hl⟩ := hP
    have hi : i < ys.length := by
      rw [hlen]
      obtain ⟨h, _⟩ := List.getElem?_eq_some_iff.mp hx
      exact h
    refine ⟨hw _, yes_go ?_⟩
    refine he i x ys[i] H' _ hx (List.getElem?_eq_getElem hi) sm fun H3 s3 => ?_
    refine ⟨ys.take i, s3 _ _ hl, ?_, Same.upd_new (sm.trans s3) hD, ?_⟩
    · rw [List.length_take]
      exact szl (by omega)
    · rw [upd_same, List.take_add_one, List.getElem?_eq_getElem hi]
      rfl
  · obtain ⟨sm, hl⟩ := hP
    rw [← hlen, List.take_length] at hl
    exact hd H' sm hl
/-! ### what the writers promise -/
def spEndText : Sp := fun vs H Q _ => ∃ (v : V) (e : Str × Int), vs = [v] ∧ Rp H v (encE e) ∧ e.1.length ≤ 100 ∧ -99 ≤ e.2 ∧ e.2 ≤ 99 ∧ ∀ H', Same H H' → Q (.str (S (endL e))) H'
def spThingText (n : Nat) : Sp := fun vs H Q _ => ∃ (v : V) (t : Thing) (C : Str → Prop) (A : Prop) (sc : List Str), vs = [v] ∧ Rp H v (enc t) ∧ TOk C A sc n t ∧ ScOk sc ∧ cntT t ≤ 1000 ∧ ∀ H', Same H H' → Q (.str (S (thingL t))) H'
def spPlanText (n : Nat) : Sp := fun vs H Q _ => ∃ (v : V) (ts : List Thing) (C : Str → Prop) (A : Prop) (sc : List Str), vs = [v] ∧ Rp H v (.tup (encs ts)) ∧ TsOk C A sc n ts ∧ ScOk sc ∧ cntB ts ≤ 1000 ∧ ∀ H', Same H H' → Q (.str (S (planL ts))) H'
/-- the same for the things of one kind -/
def spOne (kind : Thing → Prop) (n : Nat) : Sp := fun vs H Q _ => ∃ (v : V) (t : Thing) (C : Str → Prop) (A : Prop) (sc : List Str), vs = [v] ∧ kind t ∧ Rp H v (enc t) ∧ TOk C A sc n t ∧ ScOk sc ∧ cntT t ≤ 1000 ∧ ∀ H', Same H H' → Q (.str (S (thingL t))) H'
theorem endL_len {e : Str × Int} (h : e.1.length ≤ 100) (h1 : -99 ≤ e.2) (h2 : e.2 ≤ 99) : (endL e).length ≤ 110 := by
  have n1 := (num_small h1 h2).1
  have n2 := (num_small (i := -e.2) (by omega) (by omega)).1
  have l1 := len_tl e.1
  have p1 : (tl " + ").length = 3 := by decide +kernel
  have p2 : (tl " - ").length = 3 := by decide +kernel
  unfold endL
  split
  · omega
  · split
    · omega
    · split
      · rw [List.length_append, List.length_append]
        omega
      · rw [List.length_append, List.length_append]
        omega
/-! ### how a heap goes on: what M tells may be written, tuples stay -/
structure Go (M : Addr → Prop) (H H' : Hp) : Prop where
  sx : Sx M H H'
  im : Imm H H'
theorem Go.refl (M : Addr → Prop) (H : Hp) : Go M H H := ⟨Sx.refl M H, Imm.refl H⟩
theorem Go.trans {M : Addr → Prop} {H H1 H2 : Hp} (a : Go M H H1) (b : Go M H1 H2) : Go M H H2 := ⟨a.sx.trans b.sx, a.im.trans b.im⟩
theorem Go.same {M : Addr → Prop} {H H' : Hp} (a : Same H H') : Go M H H' := ⟨Sx.of_same a, Imm.same a⟩
theorem Go.new {M : Addr → Prop} {H H' : Hp} {p : Addr} {o : HO} (a : Go M H H') (h : H' p = none) : Go M H (upd H' p o) := a.trans (Go.same (same_new h))
theorem Go.mono {M N : Addr → Prop} {H H' : Hp} (a : Go M H H') (h : ∀ b, M b → N b) : Go N H H' := ⟨a.sx.mono h, a.im⟩
theorem Go.but {M : Addr → Prop} {H H' : Hp} {d L : Addr} (h : Dr H d L) (a : But d H H') (m : M d) : Go M H H' := ⟨Sx.of_but a m, h.imm a⟩
theorem Go.set {M : Addr → Prop} {H H' : Hp} {p : Addr} {o : HO} {l : List V} (a : Go M H H') (m : M p) (h : H' p = some (.lst l)) : Go M H (upd H' p o) :=
  ⟨a.sx.upd_in m, a.im.trans ((Imm.refl H').upd fun xs e => by rw [h] at e; cases e)⟩
theorem Go.own {M : Addr → Prop} {H H' : Hp} {p : Addr} {o : HO} (a : Go M H H') (h : H p = none) : Go M H (upd H' p o) :=
  ⟨a.sx.upd_new h, a.im.upd fun xs e => by rw [h] at e; cases e⟩
theorem Go.at {M : Addr → Prop} {H H' : Hp} {p : Addr} {o : HO} (a : Go M H H') (h : H p = some o) (n : ¬ M p) : H' p = some o := a.sx p o n h
/-- what is not tracked behind was not tracked ahead, where M's own are tracked behind -/
theorem Go.free {M : Addr → Prop} {H H' : Hp} {p : Addr} (a : Go M H H') (h : H' p = none) (n : ¬ M p) : H p = none := by
  cases q : H p with
  | none => rfl
  | some o =>
    rw [a.sx p o n q] at h
    cases h
theorem mem_ints2 {v : V} {a b : Int} (h : v ∈ [V.int a, .int b]) : ∃ m, v = .int m ∧ (m = a ∨ m = b) := by
  rcases List.mem_cons.mp h with rfl | h
  · exact ⟨a, rfl, .inl rfl⟩
  rcases List.mem_cons.mp h with rfl | h
  · exact ⟨b, rfl, .inr rfl⟩
  · cases h
theorem mem_ints3 {v : V} {a b c : Int} (h : v ∈ [V.int a, .int b, .int c]) : ∃ m, v = .int m ∧ (m = a ∨ m = b ∨ m = c) := by
  rcases List.mem_cons.mp h with rfl | h
  · exact ⟨a, rfl, .inl rfl⟩
  obtain ⟨m, e, q⟩ := mem_ints2 h
  exact ⟨m, e, .inr q⟩
theorem mem_ints {v : V} {ns : List Int} (h : v ∈ ns.map V.int) : ∃ m, v = .int m ∧ m ∈ ns := by
  obtain ⟨m, hm, e⟩ := List.mem_map.mp h
  exact ⟨m, e.symm, hm⟩
theorem mem_strs {v : V} {ns : List Str} (h : v ∈ ns.map V.str) : ∃ m, v = .str m ∧ m ∈ ns := by
  obtain ⟨m, hm, e⟩ := List.mem_map.mp h
  exact ⟨m, e.symm, hm⟩
/-! ### what the drawing promises -/
/-- the kit: room, the names that may be called (none), figures, wide -/
def Kt (H : Hp) (k kd : Addr) (r : Int) (fig wide : Bool) : Prop := H k = some (.lst [.int r, .ref kd, .bl fig, .bl wide]) ∧ H kd = some (.dK [])
def M2 (d k : Addr) : Addr → Prop := fun b => b = d ∨ b = k
/-- _law_some_end(draw, scope, wide) -/
def spSomeEnd : Sp := fun vs H Q _ => ∃ (d L sc : Addr) (ns : List Str) (wide : Bool), vs = [.ref d, .ref sc, .bl wide] ∧ Dr H d L ∧ H sc = some (.lst (ns.map V.str)) ∧ sc ≠ d ∧ ns ≠ [] ∧ ns.length < 100 ∧
  ∀ (v : V) (e : Str × Int) (H' : Hp), Rp H' v (encE e) → EndOk ns e → Dr H' d L → Go (· = d) H H' → Q v H'
/-- _law_fresh(draw, taken) -/
def spFresh : Sp := fun vs H Q _ => ∃ (d L sc : Addr) (ns : List Str), vs = [.ref d, .ref sc] ∧ Dr H d L ∧ H sc = some (.lst (ns.map V.str)) ∧ sc ≠ d ∧ ns.length < 26 ∧
  ∀ (x : Str) (H' : Hp), nameB x = true → x ∉ ns → Dr H' d L → Go (· = d) H H' → Q (.str x) H'
/-- no name may be called -/
abbrev C0 : Str → Prop := fun _ => False
/-- _law_leaf(draw, kit, scope, deep) -/
def spLeaf : Sp := fun vs H Q _ => ∃ (d L k kd sc : Addr) (dp r : Int) (fig wide : Bool), vs = [.ref d, .ref k, .ref sc, .int dp] ∧ Dr H d L ∧ Kt H k kd r fig wide ∧ k ≠ d ∧
  ∀ (v : V) (t : Thing) (H' : Hp), Rp H' v (enc t) → (∀ ns n, TOk C0 False ns n t) → cntT t = 1 → Dr H' d L → Go (· = d) H H' → Q v H'
/-- what a drawing of things is handed -/
def spDraw (post : Nat → List Str → V → Hp → Nat → Prop) (n : Nat) : Sp := fun vs H Q _ => ∃ (d L k kd sc : Addr) (r : Nat) (fig wide : Bool) (ns : List Str), vs = [.ref d, .ref k, .ref sc, .int (4 - n)] ∧ Dr H d L ∧ Kt H k kd r fig wide ∧ k ≠ d ∧ k ≠ L ∧ 1 ≤ r ∧ r ≤ 100 ∧
  H sc = some (.lst (ns.map V.str)) ∧ sc ≠ d ∧ sc ≠ k ∧ ScOk ns ∧ ns ≠ [] ∧ ns.length + n ≤ 20 ∧
  ∀ (v : V) (c r' : Nat) (H' : Hp), post n ns v H' c → c + r' = r → Dr H' d L → Kt H' k kd r' fig wide → Go (M2 d k) H H' → Q v H'
def spDrawThing : Nat → Sp := spDraw fun n ns v H' c => ∃ t, Rp H' v (enc t) ∧ TOk C0 False ns n t ∧ cntT t = c
def spDrawBody : Nat → Sp := spDraw fun n ns v H' c => ∃ ts, ts ≠ [] ∧ Rp H' v (.tup (encs ts)) ∧ TsOk C0 False ns n ts ∧ cntB ts = c
/-- _law_drawn(draw, room, figures, wide) -/
def spDrawn : Sp := fun vs H Q _ => ∃ (d L : Addr) (r : Nat) (fig wide : Bool), vs = [.ref d, .int r, .bl fig, .bl wide] ∧ Dr H d L ∧ 1 ≤ r ∧ r ≤ 100 ∧
  ∀ (v : V) (ts : List Thing) (H' : Hp), ts ≠ [] → Rp H' v (.tup (encs ts)) → TsOk C0 False ["n"] 4 ts → cntB ts ≤ r → Dr H' d L → Go (· = d) H H' → Q v H'
/-- of fewer than 26 names one of the doubled letters is none -/
theorem nodup_sub : ∀ {xs ys : List Str}, xs.Nodup → (∀ x ∈ xs, x ∈ ys) → xs.length ≤ ys.length
  | [], _, _, _ => Nat.zero_le _
  | x :: r, ys, h, s => by
    obtain ⟨h1, h2⟩ := List.nodup_cons.mp h
    have hx := s x List.mem_cons_self
    have ih := nodup_sub (xs := r) (ys := ys.erase x) h2 (fun y hy => by
      have hne : y ≠ x := fun e => h1 (e ▸ hy)
      exact (List.mem_erase_of_ne hne).mpr (s y (List.mem_cons_of_mem _ hy)))
    rw [List.length_erase_of_mem hx] at ih
    have : 0 < ys.length := List.length_pos_of_mem hx
    rw [List.length_cons]
    omega
def spare : List Str := abc.map fun c => S [c, c]
theorem spare_nodup : spare.Nodup := by decide +kernel
theorem spare_free {ns : List Str} (h : ns.length < 26) : ∃ x ∈ spare, x ∉ ns := by
  by_cases c : ∃ x ∈ spare, x ∉ ns
  · exact c
  · have : spare.length ≤ ns.length := nodup_sub spare_nodup (fun x hx => by
      by_cases hn : x ∈ ns
      · exact hn
      · exact absurd ⟨x, hx, hn⟩ c)
    have e : spare.length = 26 := by decide +kernel
    omega
theorem spare_name {x : Str} (h : x ∈ spare) : nameB x = true := by
  obtain ⟨c, hc, rfl⟩ := List.mem_map.mp h
  exact name_two c hc
end OG

set_option Elab.async false
set_option linter.all false
set_option maxRecDepth 100000
set_option maxHeartbeats 4000000
namespace OG
open PySem PySem.Spec PyProof.Rows L2
/-! ### two values that stand for one datum -/
def Eq2 (H : Hp) : Nat → V → V → Prop
  | 0, v, w => v = w ∧ flatV v = true
  | n + 1, v, w => (v = w ∧ flatV v = true) ∨
    (∃ (a b : Addr) (vs ws : List V), v = .ref a ∧ w = .ref b ∧ ((H a = some (.tup vs) ∧ H b = some (.tup ws)) ∨ (H a = some (.lst vs) ∧ H b = some (.lst ws))) ∧ vs.length = ws.length ∧ vs.length < 100000 ∧
      ∀ (i : Nat) x y, vs[i]? = some x → ws[i]? = some y → Eq2 H n x y)
theorem Eq2.same {H H' : Hp} (s : Same H H') : ∀ {n : Nat} {v w : V}, Eq2 H n v w → Eq2 H' n v w
  | 0, _, _, h => h
  | n + 1, v, w, h => by
    rcases h with h | ⟨a, b, vs, ws, e1, e2, h, hl, hz, q⟩
    · exact .inl h
    · refine .inr ⟨a, b, vs, ws, e1, e2, ?_, hl, hz, fun i x y hx hy => Eq2.same s (q i x y hx hy)⟩
      rcases h with ⟨h1, h2⟩ | ⟨h1, h2⟩
      · exact .inl ⟨s _ _ h1, s _ _ h2⟩
      · exact .inr ⟨s _ _ h1, s _ _ h2⟩
theorem Eq2.flat {H : Hp} {v : V} (h : flatV v = true) : ∀ n, Eq2 H n v v
  | 0 => ⟨rfl, h⟩
  | n + 1 => .inl ⟨rfl, h⟩
mutual
/-- how deep tuples stand in one another -/
def depD : D → Nat
  | .tup xs => 1 + depL xs
  | _ => 0
def depL : List D → Nat
  | [] => 0
  | x :: xs => max (depD x) (depL xs)
end
mutual
/-- no tuple is too long -/
def fitD : D → Prop
  | .tup xs => xs.length < 100000 ∧ fitL xs
  | _ => True
def fitL : List D → Prop
  | [] => True
  | x :: xs => fitD x ∧ fitL xs
end
theorem fit_get : ∀ {xs : List D} {i : Nat} {x : D}, fitL xs → xs[i]? = some x → fitD x
  | [], _, _, _, h => by simp at h
  | y :: ys, 0, x, f, h => by
    have : y = x := Option.some.inj h
    exact this ▸ f.1
  | y :: ys, i + 1, x, f, h => fit_get (xs := ys) (i := i) f.2 h
theorem dep_get : ∀ {xs : List D} {i : Nat} {x : D}, xs[i]? = some x → depD x ≤ depL xs
  | [], _, _, h => by simp at h
  | y :: ys, 0, x, h => by
    have : y = x := Option.some.inj h
    rw [← this]
    exact Nat.le_max_left _ _
  | y :: ys, i + 1, x, h => Nat.le_trans (dep_get (xs := ys) (i := i) h) (Nat.le_max_right _ _)
theorem eq2_of {H : Hp} : ∀ (n : Nat) (x : D) (v w : V), Rp H v x → Rp H w x → depD x ≤ n → fitD x → Eq2 H n v w
  | n, .non, _, _, h, k, _, _ => by rw [show _ = V.non from h, show _ = V.non from k]; exact Eq2.flat rfl n
  | n, .bl b, _, _, h, k, _, _ => by rw [show _ = V.bl b from h, show _ = V.bl b from k]; exact Eq2.flat rfl n
  | n, .int i, _, _, h, k, _, _ => by rw [show _ = V.int i from h, show _ = V.int i from k]; exact Eq2.flat rfl n
  | n, .str z, _, _, h, k, _, _ => by rw [show _ = V.str z from h, show _ = V.str z from k]; exact Eq2.flat rfl n
  | 0, .tup xs, _, _, _, _, hd, _ => by
    have : 1 + depL xs ≤ 0 := hd
    omega
  | n + 1, .tup xs, v, w, h, k, hd, hf => by
    obtain ⟨a, vs, e1, h1, r1⟩ := h
    obtain ⟨b, ws, e2, h2, r2⟩ := k
    have l1 := r1.length
    have l2 := r2.length
    have hd2 : depL xs ≤ n := by
      have : 1 + depL xs ≤ n + 1 := hd
      omega
    refine .inr ⟨a, b, vs, ws, e1, e2, .inl ⟨h1, h2⟩, l1.trans l2.symm, by rw [l1]; exact hf.1, fun i x y hx hy => ?_⟩
    obtain ⟨d1, g1, p1⟩ := r1.get hx
    obtain ⟨d2, g2, p2⟩ := r2.get hy
    have e : d1 = d2 := Option.some.inj (g1.symm.trans g2)
    subst e
    exact eq2_of n d1 x y p1 p2 (Nat.le_trans (dep_get g1) hd2) (fit_get hf.2 g1)
def spSame (n : Nat) : Sp := fun vs H Q _ => ∃ v w : V, vs = [v, w] ∧ Eq2 H n v w ∧ ∀ H', Same H H' → Q (.bl true) H'
def prevS : Nat → Sp
  | 0 => fun _ _ _ _ => False
  | n + 1 => spSame n
/-- zip of two tuples -/
theorem walk_zipT {K : PySem.W.Frag} {a b : Addr} {xs ys : List V} {n : Nat} (hn : n = min xs.length ys.length) : Walk (RZ.ItzT K a b) n (fun H => SqT K H a xs ∧ SqT K H b ys) (YPair (fun i => xs[i]?) (fun i => ys[i]?)) := by
  subst hn
  refine ⟨fun i _ hi q => ?_, fun _ q => ⟨xs, ys, q.1, q.2, by omega⟩, fun i H v H' _ q y => ?_⟩
  · have h1 : i < xs.length := by omega
    have h2 : i < ys.length := by omega
    exact ⟨xs, ys, xs[i], ys[i], q.1, q.2, by simp [h1], by simp [h2]⟩
  · obtain ⟨T, x, z, h1, h2, h3, h4, h5⟩ := y
    exact ⟨T, x, z, h1, h2, h3, h4 xs q.1, h5 ys q.2⟩
theorem fn_none {P : Program} {w : World} {K : PySem.W.Frag} {mg : Str → Option Value} {base : Heap} {f : Addr} {fd : FuncData} {k : Nat} {ps : List Str} : FnOk P w K mg base CX0 k f fd ps (fun _ _ _ _ => False) :=
  ⟨fun _ _ _ _ h => h.elim, fun _ _ _ _ _ _ _ _ _ _ _ _ _ h => h.elim⟩
theorem all_trues : ∀ n : Nat, (List.replicate n true).all id = true
  | 0 => rfl
  | n + 1 => by rw [List.replicate_succ, List.all_cons, all_trues n]; rfl
theorem pg_tupK {X : Cx} {K : PySem.W.Frag} {es : List Expr} {k : Nat} {t : TGs} {n : Nat} {pos : Pos} (hK : X.K = K) (hc : X.calm = true) (h : PGs X es t) (hn : (assignEach es X.env).length = n := by rfl) (hst : (assignEach es X.env).findIdx? (·.1) = none := by rfl) : PG X (.Tuple es k pos) (gTup K n t) := by
  subst hK
  exact pg_tup hc h hn hst
end OG

set_option Elab.async false
set_option linter.all false
set_option maxRecDepth 100000
set_option maxHeartbeats 4000000
namespace OG
open PySem PySem.Spec PyProof.Rows L2
theorem str_to {Q : VK} {a b : Str} {H : Hp} (h : Q (.str b) H) (e : tl a = tl b) : Q (.str a) H := by rw [str_ext e]; exact h
theorem szs {a b : Str} (h : a.length + b.length ≤ 100000) : (a ++ b).length ≤ sizeLine := by rw [len_app]; exact sz h
theorem szc {a b : Str} (h : a.length + b.length ≤ 100000) : a.length + b.length ≤ sizeLine := sz h
theorem l_emp : Str.empty.length = 0 := rfl
theorem l_0 : ("" : Str).length = 0 := by decide +kernel
theorem l_plus : (" + " : Str).length = 3 := by decide +kernel
theorem l_minus : (" - " : Str).length = 3 := by decide +kernel
theorem l_step : ("step " : Str).length = 5 := by decide +kernel
theorem l_for : ("for " : Str).length = 4 := by decide +kernel
theorem l_from : (" from " : Str).length = 6 := by decide +kernel
theorem l_to : (" to " : Str).length = 4 := by decide +kernel
theorem l_open : (" (" : Str).length = 2 := by decide +kernel
theorem l_shut : (")" : Str).length = 1 := by decide +kernel
theorem l_if : ("if " : Str).length = 3 := by decide +kernel
theorem l_le : (" <= " : Str).length = 4 := by decide +kernel
theorem l_else : (" else (" : Str).length = 7 := by decide +kernel
theorem l_double : ("double (" : Str).length = 8 := by decide +kernel
theorem l_call : ("call " : Str).length = 5 := by decide +kernel
theorem l_with : (" with " : Str).length = 6 := by decide +kernel
theorem l_again : ("again " : Str).length = 6 := by decide +kernel
theorem l_on : (" on " : Str).length = 4 := by decide +kernel
theorem numL_len {i : Int} (h0 : -99 ≤ i) (h1 : i ≤ 99) : ((toString i : Str)).length ≤ 3 := by
  have := (num_small h0 h1).1
  unfold numL at this
  rw [← len_tl] at this
  exact this
theorem int_log {i : Int} (h0 : -99 ≤ i) (h1 : i ≤ 99) : i.natAbs.log2 < 1920 := (num_small h0 h1).2
theorem strs_len (ls : List (List Nat)) : ((ls.map S).map (·.length)).sum = (ls.map (·.length)).sum := by
  rw [List.map_map]
  congr 1
theorem sum_le_two : ∀ ls : List (List Nat), (ls.map (·.length)).sum + ls.length * 2 = (ls.map (fun l => l.length + 2)).sum
  | [] => rfl
  | l :: r => by
    have ih := sum_le_two r
    rw [List.map_cons, List.map_cons, List.sum_cons, List.sum_cons, List.length_cons]
    omega
/-- '; '.join of the things' texts -/
theorem join_things (ts : List Thing) : Txt.join "; " (ts.map fun t => S (thingL t)) = S (planL ts) := by
  have e := SX.join_S (tl "; ") (thingsL ts)
  have e1 : SX.S (tl "; ") = ("; " : Str) := S_tl _
  rw [e1] at e
  have e2 : (thingsL ts).map SX.S = ts.map fun t => S (thingL t) := by
    rw [thingsL_map, List.map_map]
    rfl
  rw [e2] at e
  exact e
theorem things_sum {C : Str → Prop} {A : Prop} {ts : List Thing} {sc : List Str} {n : Nat} (h : TsOk C A sc n ts) (hs : ScOk sc) (hc : cntB ts ≤ 1000) :
    (((ts.map fun t => S (thingL t))).map (·.length)).sum + (ts.map fun t => S (thingL t)).length * ("; " : Str).length ≤ 16777216 := by
  have c0 : ("; " : Str).length = 2 := by decide +kernel
  have e : (ts.map fun t => S (thingL t)) = (thingsL ts).map S := by
    rw [thingsL_map, List.map_map]
    rfl
  rw [e, strs_len, c0, List.length_map, sum_le_two]
  have := things_size ts sc n h hs
  omega
theorem body_len {C : Str → Prop} {A : Prop} {ts : List Thing} {sc : List Str} {n : Nat} (h : TsOk C A sc n ts) (hs : ScOk sc) (hc : cntB ts ≤ 1000) : (planL ts).length ≤ 80000 := by
  have := plan_size h hs
  omega
theorem rpl_things {H : Hp} {vs : List V} {ts : List Thing} (h : RpL H vs (encs ts)) {i : Nat} {x : V} (hx : vs[i]? = some x) : ∃ t, ts[i]? = some t ∧ Rp H x (enc t) := by
  obtain ⟨d, hd, hr⟩ := h.get hx
  rw [encs_map, List.getElem?_map] at hd
  cases ht : ts[i]? with
  | none => rw [ht] at hd; cases hd
  | some t =>
    rw [ht] at hd
    have : enc t = d := Option.some.inj hd
    exact ⟨t, rfl, this ▸ hr⟩
end OG

set_option Elab.async false
set_option linter.all false
set_option maxRecDepth 100000
set_option maxHeartbeats 4000000
namespace OG
open PySem PySem.Spec PyProof.Rows L2
mutual
def toPy : D → PyData
  | .non => .none
  | .bl b => .bool b
  | .int n => .int n
  | .str z => .str z
  | .tup xs => .tuple (toPys xs)
def toPys : List D → List PyData
  | [] => []
  | x :: xs => toPy x :: toPys xs
end
mutual
theorem rp_dp {K : PySem.W.Frag} {H : Hp} : ∀ (x : D) (v : V), Rp H v x → Dp K H v (toPy x)
  | .non, _, h => by rw [show _ = V.non from h]; exact .non
  | .bl b, _, h => by rw [show _ = V.bl b from h]; exact .bl b
  | .int n, _, h => by rw [show _ = V.int n from h]; exact .int n
  | .str z, _, h => by rw [show _ = V.str z from h]; exact .str z
  | .tup xs, _, h => by
    obtain ⟨a, vs, e, q, r⟩ := h
    rw [e]
    exact .tup (SqT.of q) (rp_dps xs vs r)
theorem rp_dps {K : PySem.W.Frag} {H : Hp} : ∀ (xs : List D) (vs : List V), RpL H vs xs → DpAll K H vs (toPys xs)
  | [], _, h => by rw [show _ = [] from h]; exact .nil
  | x :: xs, _, h => by
    obtain ⟨v, r, e, q, t⟩ := h
    rw [e]
    exact .cons (rp_dp x v q) (rp_dps xs r t)
end
theorem abc_range : ∀ c ∈ abc, 97 ≤ c ∧ c ≤ 122 := by
  have h : abc.all (fun c => decide (97 ≤ c) && decide (c ≤ 122)) = true := by decide +kernel
  intro c hc
  have := List.all_eq_true.mp h c hc
  simpa only [Bool.and_eq_true, decide_eq_true_eq] using this
theorem name_strOk {z : Str} (h : nameB z = true) : PyData.strOk z = true := by
  have ha := name_abc h
  unfold PyData.strOk
  rw [Array.all_eq_true']
  intro c hc
  have := abc_range c (ha c (by simpa [tl] using hc))
  simp
  omega
theorem end_py {sc : List Str} {e : Str × Int} (hs : ScOk sc) (h : EndOk sc e) : (toPy (encE e)).canLay0 = true ∧ (toPy (encE e)).depth = 1 := by
  have h1 : PyData.strOk e.1 = true := by
    rcases h with ⟨h1, _⟩ | ⟨h1, _⟩
    · rw [h1]
      decide +kernel
    · rcases hs _ h1 with h2 | h2
      · rw [h2]
        decide +kernel
      · exact name_strOk h2
  refine ⟨?_, rfl⟩
  show (PyData.strOk e.1 && (true && true)) = true
  rw [h1]
  rfl
mutual
theorem thing_py {C : Str → Prop} {A : Prop} : ∀ (t : Thing) (sc : List Str) (n : Nat), TOk C A sc n t → ScOk sc → (toPy (enc t)).canLay0 = true ∧ (toPy (enc t)).depth ≤ 2 * n + 2
  | .step k, sc, n, h, hs => ⟨by show (PyData.strOk "step" && (true && true)) = true; decide +kernel, by show 1 ≤ 2 * n + 2; omega⟩
  | .loop x a b body, sc, n, h, hs => by
    obtain ⟨h1, h2, h3, h4, h5, m, rfl, h6⟩ := h
    obtain ⟨a1, a2⟩ := end_py hs h3
    obtain ⟨b1, b2⟩ := end_py hs h4
    obtain ⟨c1, c2⟩ := things_py body _ _ h6 (scOk_snoc hs h1)
    have f1 : PyData.strOk "for" = true := by decide +kernel
    constructor
    · show (PyData.strOk "for" && (PyData.strOk x && ((toPy (encE a)).canLay0 && ((toPy (encE b)).canLay0 && (PyData.canLayAll0 (toPys (encs body)) && true))))) = true
      rw [f1, name_strOk h1, a1, b1, c1]
      rfl
    · show max 0 (max 0 (max (toPy (encE a)).depth (max (toPy (encE b)).depth (max (PyData.depthAll (toPys (encs body)) + 1) 0)))) + 1 ≤ 2 * (m + 1) + 2
      rw [a2, b2]
      omega
  | .test a b x y, sc, n, h, hs => by
    obtain ⟨h3, h4, h5, m, rfl, h6, h7⟩ := h
    obtain ⟨a1, a2⟩ := end_py hs h3
    obtain ⟨b1, b2⟩ := end_py hs h4
    obtain ⟨c1, c2⟩ := things_py x _ _ h6 hs
    obtain ⟨d1, d2⟩ := things_py y _ _ h7 hs
    have f1 : PyData.strOk "if" = true := by decide +kernel
    constructor
    · show (PyData.strOk "if" && ((toPy (encE a)).canLay0 && ((toPy (encE b)).canLay0 && (PyData.canLayAll0 (toPys (encs x)) && (PyData.canLayAll0 (toPys (encs y)) && true))))) = true
      rw [f1, a1, b1, c1, d1]
      rfl
    · show max 0 (max (toPy (encE a)).depth (max (toPy (encE b)).depth (max (PyData.depthAll (toPys (encs x)) + 1) (max (PyData.depthAll (toPys (encs y)) + 1) 0)))) + 1 ≤ 2 * (m + 1) + 2
      rw [a2, b2]
      omega
  | .twice b, sc, n, h, hs => by
    obtain ⟨h5, m, rfl, h6⟩ := h
    obtain ⟨c1, c2⟩ := things_py b _ _ h6 hs
    have f1 : PyData.strOk "double" = true := by decide +kernel
    constructor
    · show (PyData.strOk "double" && (PyData.canLayAll0 (toPys (encs b)) && true)) = true
      rw [f1, c1]
      rfl
    · show max 0 (max (PyData.depthAll (toPys (encs b)) + 1) 0) + 1 ≤ 2 * (m + 1) + 2
      omega
  | .call x e, sc, n, h, hs => by
    obtain ⟨a1, a2⟩ := end_py hs h.2.2
    have f1 : PyData.strOk "call" = true := by decide +kernel
    constructor
    · show (PyData.strOk "call" && (PyData.strOk x && ((toPy (encE e)).canLay0 && true))) = true
      rw [f1, name_strOk h.1, a1]
      rfl
    · show max 0 (max 0 (max (toPy (encE e)).depth 0)) + 1 ≤ 2 * n + 2
      rw [a2]
      omega
  | .again k w, sc, n, h, hs => by
    obtain ⟨_, _, _, h3⟩ := h
    have f1 : PyData.strOk "again" = true := by decide +kernel
    have f2 : PyData.strOk w = true := by
      rcases h3 with rfl | rfl | rfl
      · decide +kernel
      · decide +kernel
      · decide +kernel
    constructor
    · show (PyData.strOk "again" && (true && (PyData.strOk w && true))) = true
      rw [f1, f2]
      rfl
    · show 1 ≤ 2 * n + 2
      omega
theorem things_py {C : Str → Prop} {A : Prop} : ∀ (ts : List Thing) (sc : List Str) (n : Nat), TsOk C A sc n ts → ScOk sc → PyData.canLayAll0 (toPys (encs ts)) = true ∧ PyData.depthAll (toPys (encs ts)) ≤ 2 * n + 2
  | [], _, _, _, _ => ⟨rfl, Nat.zero_le _⟩
  | t :: r, sc, n, h, hs => by
    obtain ⟨a1, a2⟩ := thing_py t sc n h.1 hs
    obtain ⟨b1, b2⟩ := things_py r sc n h.2 hs
    constructor
    · show ((toPy (enc t)).canLay0 && PyData.canLayAll0 (toPys (encs r))) = true
      rw [a1, b1]
      rfl
    · show max (toPy (enc t)).depth (PyData.depthAll (toPys (encs r))) ≤ 2 * n + 2
      omega
end
/-- a body against the empty tuple -/
theorem body_eqv {C : Str → Prop} {A : Prop} {ts : List Thing} {sc : List Str} {n : Nat} (h : TsOk C A sc n ts) (hs : ScOk sc) (hn : n ≤ 20) :
    SeqAt.shaped (toPy (.tup (encs ts))) = true ∧ PyData.eqv (toPy (.tup (encs ts))) (.tuple []) = ts.isEmpty := by
  obtain ⟨a1, a2⟩ := things_py ts sc n h hs
  constructor
  · unfold SeqAt.shaped
    rw [show (toPy (.tup (encs ts))).canLay0 = true from a1]
    have : (toPy (.tup (encs ts))).depth ≤ 64 := by
      show PyData.depthAll (toPys (encs ts)) + 1 ≤ 64
      omega
    rw [decide_eq_true this]
    rfl
  · cases ts with
    | nil => rfl
    | cons t r => rfl
end OG

set_option Elab.async false
set_option linter.all false
set_option maxRecDepth 100000
set_option maxHeartbeats 4000000
namespace OG
open PySem PySem.Spec PyProof.Rows L2
def cutD (xs : List D) (lo hi : Option Int) : List D := (xs.drop (HT.sIx xs.length 0 lo)).take (HT.sIx xs.length xs.length hi - HT.sIx xs.length 0 lo)
theorem sl_rp {K : PySem.W.Frag} {H : Hp} {v : V} {xs : List D} {lo hi : Option Int} {Q : VK} (h : Rp H v (.tup xs)) (q : ∀ v' H', Same H H' → Rp H' v' (.tup (cutD xs lo hi)) → Q v' H') : rSlA K v lo hi H Q := by
  obtain ⟨a, vs, rfl, ha, r⟩ := id h
  have l := r.length
  refine ⟨a, vs, rfl, SqT.of ha, fun hw => ?_, fun hw p np => ?_⟩
  · have e : cutD xs lo hi = xs := by
      unfold cutD
      rw [← l, hw.1, hw.2, List.drop_zero, Nat.sub_zero, l, List.take_length]
    have := q (.ref a) H (Same.refl H)
    rw [e] at this
    exact this h
  · have s : Same H (upd H p (.tup (cutV vs lo hi))) := same_new np
    refine q (.ref p) _ s (rp_tup upd_same ?_)
    unfold cutV cutD
    rw [← l]
    exact ((r.drop _).take _).to (Imm.same s)
theorem cat_rp {K : PySem.W.Frag} {H : Hp} {x y : V} {xs ys : List D} {Q : VK} (hx : Rp H x (.tup xs)) (hy : Rp H y (.tup ys)) (hz : xs.length + ys.length ≤ 100000) (q : ∀ v' H', Same H H' → Rp H' v' (.tup (xs ++ ys)) → Q v' H') : rCatA K x y H Q := by
  obtain ⟨a, vs, rfl, ha, r⟩ := id hx
  obtain ⟨b, ws, rfl, hb, t⟩ := id hy
  have l := r.length
  have m := t.length
  refine ⟨a, b, vs, ws, rfl, rfl, SqT.of ha, SqT.of hb, sz (by omega), fun e => ?_, fun _ e => ?_, fun _ _ p np => ?_⟩
  · have : xs = [] := List.eq_nil_of_length_eq_zero (by rw [← l, e]; rfl)
    subst this
    exact q (.ref b) H (Same.refl H) hy
  · have : ys = [] := List.eq_nil_of_length_eq_zero (by rw [← m, e]; rfl)
    subst this
    have := q (.ref a) H (Same.refl H)
    rw [List.append_nil] at this
    exact this hx
  · have s : Same H (upd H p (.tup (vs ++ ws))) := same_new np
    exact q (.ref p) _ s (rp_tup upd_same ((r.append t).to (Imm.same s)))
theorem cutD_to (xs : List D) (k : Nat) : cutD xs none (some (k : Int)) = xs.take k := by
  unfold cutD
  rw [HT.sIx_none, HT.sIx_nat, List.drop_zero, Nat.sub_zero]
  by_cases h : k ≤ xs.length
  · rw [Nat.min_eq_left h]
  · rw [Nat.min_eq_right (by omega), List.take_length, List.take_of_length_le (by omega)]
theorem cutD_from (xs : List D) (k : Nat) : cutD xs (some (k : Int)) none = xs.drop k := by
  unfold cutD
  rw [HT.sIx_none, HT.sIx_nat]
  by_cases h : k ≤ xs.length
  · rw [Nat.min_eq_left h, List.take_of_length_le (by rw [List.length_drop]; omega)]
  · rw [Nat.min_eq_right (by omega), List.drop_length, Nat.sub_self, List.drop_eq_nil_of_le (by omega)]
    rfl
theorem encs_take (ts : List Thing) (k : Nat) : (encs ts).take k = encs (ts.take k) := by rw [encs_map, encs_map, List.map_take]
theorem encs_drop (ts : List Thing) (k : Nat) : (encs ts).drop k = encs (ts.drop k) := by rw [encs_map, encs_map, List.map_drop]
theorem cnt_take : ∀ (ts : List Thing) (k : Nat), cntB (ts.take k) ≤ cntB ts
  | _, 0 => Nat.zero_le _
  | [], k + 1 => Nat.le_refl _
  | t :: r, k + 1 => by
    have := cnt_take r k
    show cntT t + cntB (r.take k) ≤ cntT t + cntB r
    omega
theorem cnt_drop : ∀ (ts : List Thing) (k : Nat), cntB (ts.drop k) ≤ cntB ts
  | _, 0 => Nat.le_refl _
  | [], k + 1 => Nat.le_refl _
  | t :: r, k + 1 => by
    have := cnt_drop r k
    show cntB (r.drop k) ≤ cntT t + cntB r
    omega
mutual
theorem tok_mono {C C' : Str → Prop} {A A' : Prop} (hC : ∀ x, C x → C' x) (hA : A → A') : ∀ (t : Thing) (sc : List Str) (n : Nat), TOk C A sc n t → TOk C' A' sc n t
  | .step _, _, _, h => h
  | .loop x a b body, sc, n, h => by
    obtain ⟨h1, h2, h3, h4, h5, m, e, h6⟩ := h
    exact ⟨h1, h2, h3, h4, h5, m, e, tsok_mono hC hA body _ _ h6⟩
  | .test a b x y, sc, n, h => by
    obtain ⟨h3, h4, h5, m, e, h6, h7⟩ := h
    exact ⟨h3, h4, h5, m, e, tsok_mono hC hA x _ _ h6, tsok_mono hC hA y _ _ h7⟩
  | .twice b, sc, n, h => by
    obtain ⟨h5, m, e, h6⟩ := h
    exact ⟨h5, m, e, tsok_mono hC hA b _ _ h6⟩
  | .call x e, sc, n, h => ⟨h.1, hC _ h.2.1, h.2.2⟩
  | .again k w, sc, n, h => ⟨hA h.1, h.2⟩
theorem tsok_mono {C C' : Str → Prop} {A A' : Prop} (hC : ∀ x, C x → C' x) (hA : A → A') : ∀ (ts : List Thing) (sc : List Str) (n : Nat), TsOk C A sc n ts → TsOk C' A' sc n ts
  | [], _, _, _ => trivial
  | t :: r, sc, n, h => ⟨tok_mono hC hA t sc n h.1, tsok_mono hC hA r sc n h.2⟩
end
theorem tsok_append {C : Str → Prop} {A : Prop} {sc : List Str} {n : Nat} {a b : List Thing} (h : TsOk C A sc n a) (k : TsOk C A sc n b) : TsOk C A sc n (a ++ b) := by
  rw [tsok_iff] at h k ⊢
  intro t ht
  rcases List.mem_append.mp ht with h1 | h1
  · exact h t h1
  · exact k t h1
theorem tsok_take {C : Str → Prop} {A : Prop} {sc : List Str} {n : Nat} {a : List Thing} (h : TsOk C A sc n a) (k : Nat) : TsOk C A sc n (a.take k) := by
  rw [tsok_iff] at h ⊢
  exact fun t ht => h t (List.mem_of_mem_take ht)
theorem tsok_drop {C : Str → Prop} {A : Prop} {sc : List Str} {n : Nat} {a : List Thing} (h : TsOk C A sc n a) (k : Nat) : TsOk C A sc n (a.drop k) := by
  rw [tsok_iff] at h ⊢
  exact fun t ht => h t (List.mem_of_mem_drop ht)
theorem scOk_n : ScOk ["n"] := fun x hx => .inl (List.mem_singleton.mp hx)
abbrev CT : Str → Prop := fun _ => True
def spLaw (K : PySem.W.Frag) : Sp := fun vs H Q _ => ∃ (a : Addr) (ns : List Int), vs = [.ref a] ∧ SqL K H a (ns.map V.int) ∧ ns.length ≤ 63 ∧ ∀ H', Q (.bl true) H'
/-! depth and fit of a plan's datum -/
theorem depD_end (e : Str × Int) : depD (encE e) = 1 := rfl
mutual
theorem thing_dep {C : Str → Prop} {A : Prop} : ∀ (t : Thing) (sc : List Str) (n : Nat), TOk C A sc n t → depD (enc t) ≤ 2 * n + 2
  | .step k, _, n, _ => by show 1 ≤ 2 * n + 2; omega
  | .loop x a b body, sc, n, h => by
    obtain ⟨_, _, _, _, _, m, rfl, h6⟩ := h
    have := things_dep body _ _ h6
    show 1 + max 0 (max 0 (max 1 (max 1 (max (1 + depL (encs body)) 0)))) ≤ 2 * (m + 1) + 2
    omega
  | .test a b x y, sc, n, h => by
    obtain ⟨_, _, _, m, rfl, h6, h7⟩ := h
    have h8 := things_dep x _ _ h6
    have h9 := things_dep y _ _ h7
    show 1 + max 0 (max 1 (max 1 (max (1 + depL (encs x)) (max (1 + depL (encs y)) 0)))) ≤ 2 * (m + 1) + 2
    omega
  | .twice b, sc, n, h => by
    obtain ⟨_, m, rfl, h6⟩ := h
    have := things_dep b _ _ h6
    show 1 + max 0 (max (1 + depL (encs b)) 0) ≤ 2 * (m + 1) + 2
    omega
  | .call x e, _, n, _ => by show 1 + max 0 (max 0 (max 1 0)) ≤ 2 * n + 2; omega
  | .again k w, _, n, _ => by show 1 ≤ 2 * n + 2; omega
theorem things_dep {C : Str → Prop} {A : Prop} : ∀ (ts : List Thing) (sc : List Str) (n : Nat), TsOk C A sc n ts → depL (encs ts) ≤ 2 * n + 2
  | [], _, _, _ => Nat.zero_le _
  | t :: r, sc, n, h => by
    have h1 := thing_dep t sc n h.1
    have h2 := things_dep r sc n h.2
    show max (depD (enc t)) (depL (encs r)) ≤ 2 * n + 2
    omega
end
theorem plan_dep {C : Str → Prop} {A : Prop} {ts : List Thing} {sc : List Str} {n k : Nat} (h : TsOk C A sc n ts) (hk : 2 * n + 3 ≤ k) : depD (.tup (encs ts)) ≤ k := by
  have := things_dep ts sc n h
  show 1 + depL (encs ts) ≤ k
  omega
mutual
theorem thing_fit : ∀ (t : Thing), cntT t ≤ 1000 → fitD (enc t)
  | .step k, _ => ⟨by show 2 < 100000; decide, trivial, trivial, trivial⟩
  | .loop x a b body, h => by
    have h2 : 1 + cntB body ≤ 1000 := h
    have hl := cnt_len body
    exact ⟨by show 5 < 100000; decide, trivial, trivial, ⟨by show 2 < 100000; decide, trivial, trivial, trivial⟩, ⟨by show 2 < 100000; decide, trivial, trivial, trivial⟩, ⟨by rw [encs_length]; omega, things_fit body (by omega)⟩, trivial⟩
  | .test a b x y, h => by
    have h2 : 1 + cntB x + cntB y ≤ 1000 := h
    have hx := cnt_len x
    have hy := cnt_len y
    exact ⟨by show 5 < 100000; decide, trivial, ⟨by show 2 < 100000; decide, trivial, trivial, trivial⟩, ⟨by show 2 < 100000; decide, trivial, trivial, trivial⟩, ⟨by rw [encs_length]; omega, things_fit x (by omega)⟩, ⟨by rw [encs_length]; omega, things_fit y (by omega)⟩, trivial⟩
  | .twice b, h => by
    have h2 : 1 + cntB b ≤ 1000 := h
    have hl := cnt_len b
    exact ⟨by show 2 < 100000; decide, trivial, ⟨by rw [encs_length]; omega, things_fit b (by omega)⟩, trivial⟩
  | .call x e, _ => ⟨by show 3 < 100000; decide, trivial, trivial, ⟨by show 2 < 100000; decide, trivial, trivial, trivial⟩, trivial⟩
  | .again k w, _ => ⟨by show 3 < 100000; decide, trivial, trivial, trivial, trivial⟩
theorem things_fit : ∀ (ts : List Thing), cntB ts ≤ 1000 → fitL (encs ts)
  | [], _ => trivial
  | t :: r, h => by
    have h2 : cntT t + cntB r ≤ 1000 := h
    exact ⟨thing_fit t (by omega), things_fit r (by omega)⟩
end
theorem plan_fit {C : Str → Prop} {A : Prop} {ts : List Thing} {sc : List Str} {n : Nat} (_ : TsOk C A sc n ts) (h : cntB ts ≤ 1000) : fitD (.tup (encs ts)) := by
  have hl := cnt_len ts
  exact ⟨by rw [encs_length]; omega, things_fit ts h⟩
end OG

set_option Elab.async false
set_option linter.all false
set_option maxRecDepth 100000
set_option maxHeartbeats 4000000
namespace OG
open PySem PySem.Spec PyProof.Rows L2
/-! ### all things of a plan, and whom it calls -/
def bodiesT : Thing → List (List Thing)
  | .step _ => []
  | .loop _ _ _ b => [b]
  | .test _ _ x y => [x, y]
  | .twice b => [b]
  | .call _ _ => []
  | .again _ _ => []
mutual
def everyT : Thing → List Thing
  | .step k => [.step k]
  | .loop x a b body => .loop x a b body :: everyB body
  | .test a b x y => .test a b x y :: (everyB x ++ everyB y)
  | .twice b => .twice b :: everyB b
  | .call x e => [.call x e]
  | .again k w => [.again k w]
def everyB : List Thing → List Thing
  | [] => []
  | t :: r => everyT t ++ everyB r
end
theorem everyB_append : ∀ a b : List Thing, everyB (a ++ b) = everyB a ++ everyB b
  | [], b => rfl
  | t :: r, b => by
    show everyT t ++ everyB (r ++ b) = everyT t ++ everyB r ++ everyB b
    rw [everyB_append r b, List.append_assoc]
theorem everyT_eq (t : Thing) : everyT t = t :: (bodiesT t).flatMap everyB := by
  cases t <;> simp [everyT, bodiesT]
theorem everyB_take {ts : List Thing} {i : Nat} {t : Thing} (h : ts[i]? = some t) : everyB (ts.take (i + 1)) = everyB (ts.take i) ++ t :: (bodiesT t).flatMap everyB := by
  rw [List.take_add_one, h, everyB_append]
  show everyB (ts.take i) ++ (everyT t ++ everyB []) = _
  rw [everyT_eq]
  show _ ++ (_ ++ []) = _
  rw [List.append_nil]
mutual
theorem everyT_len : ∀ t : Thing, (everyT t).length = cntT t
  | .step _ => rfl
  | .loop x a b body => by
    show (everyB body).length + 1 = 1 + cntB body
    rw [everyB_len body]; omega
  | .test a b x y => by
    show (everyB x ++ everyB y).length + 1 = 1 + cntB x + cntB y
    rw [List.length_append, everyB_len x, everyB_len y]; omega
  | .twice b => by
    show (everyB b).length + 1 = 1 + cntB b
    rw [everyB_len b]; omega
  | .call _ _ => rfl
  | .again _ _ => rfl
theorem everyB_len : ∀ ts : List Thing, (everyB ts).length = cntB ts
  | [] => rfl
  | t :: r => by
    show (everyT t ++ everyB r).length = cntT t + cntB r
    rw [List.length_append, everyT_len t, everyB_len r]
end
theorem cnt_take_le (ts : List Thing) (i : Nat) : cntB (ts.take i) ≤ cntB ts := cnt_take ts i
/-- a thing's bodies have one bracket less -/
theorem bodies_ok {C : Str → Prop} {A : Prop} {sc : List Str} {n : Nat} {t : Thing} (h : TOk C A sc n t) : ∀ b ∈ bodiesT t, ∃ sc' m, n = m + 1 ∧ TsOk C A sc' m b := by
  cases t with
  | step k => intro b hb; cases hb
  | loop x e1 e2 body =>
    obtain ⟨_, _, _, _, _, m, e, h6⟩ := h
    intro b hb
    rw [List.mem_singleton.mp hb]
    exact ⟨_, m, e, h6⟩
  | test e1 e2 x y =>
    obtain ⟨_, _, _, m, e, h6, h7⟩ := h
    intro b hb
    rcases List.mem_cons.mp hb with rfl | hb
    · exact ⟨_, m, e, h6⟩
    · rw [List.mem_singleton.mp hb]
      exact ⟨_, m, e, h7⟩
  | twice b0 =>
    obtain ⟨_, m, e, h6⟩ := h
    intro b hb
    rw [List.mem_singleton.mp hb]
    exact ⟨_, m, e, h6⟩
  | call x e => intro b hb; cases hb
  | again k w => intro b hb; cases hb
theorem bodies_cnt {t : Thing} : ∀ b ∈ bodiesT t, cntB b ≤ cntT t := by
  cases t with
  | step k => intro b hb; cases hb
  | loop x e1 e2 body =>
    intro b hb
    rw [List.mem_singleton.mp hb]
    show cntB body ≤ 1 + cntB body
    omega
  | test e1 e2 x y =>
    intro b hb
    show cntB b ≤ 1 + cntB x + cntB y
    rcases List.mem_cons.mp hb with rfl | hb
    · omega
    · rw [List.mem_singleton.mp hb]
      omega
  | twice b0 =>
    intro b hb
    rw [List.mem_singleton.mp hb]
    show cntB b0 ≤ 1 + cntB b0
    omega
  | call x e => intro b hb; cases hb
  | again k w => intro b hb; cases hb
def encBs (bs : List (List Thing)) : List D := bs.map fun b => .tup (encs b)
theorem rpl_bodies {H : Hp} {vs : List V} {bs : List (List Thing)} (h : RpL H vs (encBs bs)) {i : Nat} {x : V} (hx : vs[i]? = some x) : ∃ b, bs[i]? = some b ∧ Rp H x (.tup (encs b)) := by
  obtain ⟨d, hd, hr⟩ := h.get hx
  unfold encBs at hd
  rw [List.getElem?_map] at hd
  cases ht : bs[i]? with
  | none => rw [ht] at hd; cases hd
  | some t =>
    rw [ht] at hd
    have : D.tup (encs t) = d := Option.some.inj hd
    exact ⟨t, rfl, this ▸ hr⟩
theorem flat_take_len {α β : Type} (f : α → List β) (l : List α) (k : Nat) : ((l.take k).flatMap f).length ≤ (l.flatMap f).length := by
  have e : l.flatMap f = (l.take k).flatMap f ++ (l.drop k).flatMap f := by rw [← List.flatMap_append, List.take_append_drop]
  rw [e, List.length_append]
  omega
theorem part_len {ts : List Thing} {i : Nat} {t : Thing} (h : ts[i]? = some t) (k : Nat) : (everyB (ts.take i) ++ t :: ((bodiesT t).take k).flatMap everyB).length ≤ cntB ts := by
  have e := congrArg List.length (everyB_take h)
  have h1 := cnt_take ts (i + 1)
  rw [everyB_len, List.length_append, List.length_cons] at e
  have h2 := flat_take_len everyB (bodiesT t) k
  rw [List.length_append, List.length_cons]
  omega
theorem flat_step {bs : List (List Thing)} {j : Nat} {b : List Thing} (h : bs[j]? = some b) : (bs.take (j + 1)).flatMap everyB = (bs.take j).flatMap everyB ++ everyB b := by
  rw [List.take_add_one, h, List.flatMap_append]
  show _ ++ (everyB b ++ []) = _
  rw [List.append_nil]
theorem encs_cons_append (a : List Thing) (t : Thing) (b : List Thing) : encs (a ++ t :: b) = encs a ++ enc t :: encs b := by rw [encs_append]; rfl
theorem flat_strs (zs : List Str) : (zs.map V.str).all flatV = true := by
  rw [List.all_eq_true]
  intro x hx
  obtain ⟨z, _, rfl⟩ := List.mem_map.mp hx
  rfl
def kindT : Thing → Str
  | .step _ => "step"
  | .loop _ _ _ _ => "for"
  | .test _ _ _ _ => "if"
  | .twice _ => "double"
  | .call _ _ => "call"
  | .again _ _ => "again"
theorem rp_kind {H : Hp} {v : V} {t : Thing} (h : Rp H v (enc t)) : ∃ a vs, v = .ref a ∧ H a = some (.tup (.str (kindT t) :: vs)) := by
  cases t with
  | step k =>
    obtain ⟨a, v1, v2, rfl, ha, rfl, _⟩ := rp_t2 h
    exact ⟨a, _, rfl, ha⟩
  | loop x e1 e2 b =>
    obtain ⟨a, v1, v2, v3, v4, v5, rfl, ha, rfl, _⟩ := rp_t5 h
    exact ⟨a, _, rfl, ha⟩
  | test e1 e2 x y =>
    obtain ⟨a, v1, v2, v3, v4, v5, rfl, ha, rfl, _⟩ := rp_t5 h
    exact ⟨a, _, rfl, ha⟩
  | twice b =>
    obtain ⟨a, v1, v2, rfl, ha, rfl, _⟩ := rp_t2 h
    exact ⟨a, _, rfl, ha⟩
  | call x e =>
    obtain ⟨a, v1, v2, v3, rfl, ha, rfl, _⟩ := rp_t3 h
    exact ⟨a, _, rfl, ha⟩
  | again k w =>
    obtain ⟨a, v1, v2, v3, rfl, ha, rfl, _⟩ := rp_t3 h
    exact ⟨a, _, rfl, ha⟩
/-- a comparison of two texts -/
theorem dec_str {x y : Str} (h : ¬ x = y) : decide (V.str x = V.str y) = false := decide_eq_false fun z => h (V.str.inj z)
theorem kind_call {t : Thing} (h : kindT t = "call") : ∃ x e, t = .call x e := by
  cases t with
  | call x e => exact ⟨x, e, rfl⟩
  | step k => exact absurd h (by show ¬ (("step" : Str) = "call"); decide +kernel)
  | loop x a b c => exact absurd h (by show ¬ (("for" : Str) = "call"); decide +kernel)
  | test x a b c => exact absurd h (by show ¬ (("if" : Str) = "call"); decide +kernel)
  | twice b => exact absurd h (by show ¬ (("double" : Str) = "call"); decide +kernel)
  | again k w => exact absurd h (by show ¬ (("again" : Str) = "call"); decide +kernel)
theorem kind_step {t : Thing} (h : kindT t = "step") : ∃ k, t = .step k := by
  cases t with
  | step k => exact ⟨k, rfl⟩
  | loop x a b c => exact absurd h (by show ¬ (("for" : Str) = "step"); decide +kernel)
  | test x a b c => exact absurd h (by show ¬ (("if" : Str) = "step"); decide +kernel)
  | twice b => exact absurd h (by show ¬ (("double" : Str) = "step"); decide +kernel)
  | call x e => exact absurd h (by show ¬ (("call" : Str) = "step"); decide +kernel)
  | again k w => exact absurd h (by show ¬ (("again" : Str) = "step"); decide +kernel)
theorem kind_if {t : Thing} (h : kindT t = "if") : ∃ x a b c, t = .test x a b c := by
  cases t with
  | step k => exact absurd h (by show ¬ (("step" : Str) = "if"); decide +kernel)
  | loop x a b c => exact absurd h (by show ¬ (("for" : Str) = "if"); decide +kernel)
  | test x a b c => exact ⟨x, a, b, c, rfl⟩
  | twice b => exact absurd h (by show ¬ (("double" : Str) = "if"); decide +kernel)
  | call x e => exact absurd h (by show ¬ (("call" : Str) = "if"); decide +kernel)
  | again k w => exact absurd h (by show ¬ (("again" : Str) = "if"); decide +kernel)
theorem kind_for {t : Thing} (h : kindT t = "for") : ∃ x a b c, t = .loop x a b c := by
  cases t with
  | step k => exact absurd h (by show ¬ (("step" : Str) = "for"); decide +kernel)
  | loop x a b c => exact ⟨x, a, b, c, rfl⟩
  | test x a b c => exact absurd h (by show ¬ (("if" : Str) = "for"); decide +kernel)
  | twice b => exact absurd h (by show ¬ (("double" : Str) = "for"); decide +kernel)
  | call x e => exact absurd h (by show ¬ (("call" : Str) = "for"); decide +kernel)
  | again k w => exact absurd h (by show ¬ (("again" : Str) = "for"); decide +kernel)
theorem kind_double {t : Thing} (h : kindT t = "double") : ∃ b, t = .twice b := by
  cases t with
  | step k => exact absurd h (by show ¬ (("step" : Str) = "double"); decide +kernel)
  | loop x a b c => exact absurd h (by show ¬ (("for" : Str) = "double"); decide +kernel)
  | test x a b c => exact absurd h (by show ¬ (("if" : Str) = "double"); decide +kernel)
  | twice b => exact ⟨b, rfl⟩
  | call x e => exact absurd h (by show ¬ (("call" : Str) = "double"); decide +kernel)
  | again k w => exact absurd h (by show ¬ (("again" : Str) = "double"); decide +kernel)
theorem kind_again {t : Thing} (h : kindT t = "again") : ∃ k w, t = .again k w := by
  cases t with
  | step k => exact absurd h (by show ¬ (("step" : Str) = "again"); decide +kernel)
  | loop x a b c => exact absurd h (by show ¬ (("for" : Str) = "again"); decide +kernel)
  | test x a b c => exact absurd h (by show ¬ (("if" : Str) = "again"); decide +kernel)
  | twice b => exact absurd h (by show ¬ (("double" : Str) = "again"); decide +kernel)
  | call x e => exact absurd h (by show ¬ (("call" : Str) = "again"); decide +kernel)
  | again k w => exact ⟨k, w, rfl⟩
def addC (acc : List Str) : Thing → List Str
  | .call x _ => if x ∈ acc then acc else acc ++ [x]
  | _ => acc
theorem addC_len (acc : List Str) (t : Thing) : (addC acc t).length ≤ acc.length + 1 := by
  cases t with
  | call x e =>
    show (if x ∈ acc then acc else acc ++ [x]).length ≤ _
    split
    · omega
    · rw [List.length_append]; exact Nat.le_refl _
  | _ => exact Nat.le_succ _
theorem foldC_len : ∀ (ts : List Thing) (acc : List Str), (ts.foldl addC acc).length ≤ acc.length + ts.length
  | [], _ => Nat.le_refl _
  | t :: r, acc => by
    have h1 := foldC_len r (addC acc t)
    have h2 := addC_len acc t
    rw [List.foldl_cons, List.length_cons]
    omega
theorem addC_no {acc : List Str} {t : Thing} (h : ¬ kindT t = "call") : addC acc t = acc := by
  cases t with
  | call x e => exact absurd rfl h
  | _ => rfl
def callsL (ts : List Thing) : List Str := (everyB ts).foldl addC []
/-- bodies_of(thing), _law_bodies(_law_thing) -/
def spBodies : Sp := fun vs H Q _ => ∃ (v : V) (t : Thing), vs = [v] ∧ Rp H v (enc t) ∧
  ∀ (p : Addr) (us : List V) (H' : Hp), Same H H' → H p = none → H' p = some (.lst us) → RpL H' us (encBs (bodiesT t)) → Q (.ref p) H'
/-- things_of(body), _law_every(_law_plan) -/
def spEvery (n : Nat) : Sp := fun vs H Q _ => ∃ (v : V) (ts : List Thing) (C : Str → Prop) (A : Prop) (sc : List Str), vs = [v] ∧ Rp H v (.tup (encs ts)) ∧ TsOk C A sc n ts ∧ cntB ts ≤ 1000 ∧
  ∀ (p : Addr) (us : List V) (H' : Hp), Same H H' → H p = none → H' p = some (.lst us) → RpL H' us (encs (everyB ts)) → Q (.ref p) H'
def prevE : Nat → Sp
  | 0 => fun _ _ _ _ => False
  | m + 1 => spEvery m
/-- calls_of(plan), _law_calls(_law_plan) -/
def spCalls (n : Nat) : Sp := fun vs H Q _ => ∃ (v : V) (ts : List Thing) (C : Str → Prop) (A : Prop) (sc : List Str), vs = [v] ∧ Rp H v (.tup (encs ts)) ∧ TsOk C A sc n ts ∧ cntB ts ≤ 1000 ∧
  ∀ (p : Addr) (H' : Hp), Same H H' → H p = none → H' p = some (.lst ((callsL ts).map V.str)) → Q (.ref p) H'
/-- _law_with_calls(draw, plan, names) -/
def spWith (n : Nat) : Sp := fun vs H Q _ => ∃ (d L nm : Addr) (v : V) (ts : List Thing) (ns : List Str) (sc : List Str), vs = [.ref d, v, .ref nm] ∧ Dr H d L ∧ Rp H v (.tup (encs ts)) ∧ TsOk CT False sc n ts ∧ ("n" : Str) ∈ sc ∧ cntB ts ≤ 1000 ∧
  H nm = some (.lst (ns.map V.str)) ∧ nm ≠ d ∧ ns ≠ [] ∧ ns.length < 100 ∧ (∀ x ∈ ns, nameB x = true) ∧
  ∀ (v' : V) (ts' : List Thing) (H' : Hp), (ts ≠ [] → ts' ≠ []) → Rp H' v' (.tup (encs ts')) → TsOk CT False sc n ts' → cntB ts' = cntB ts → Dr H' d L → Go (· = d) H H' → Q v' H'
def prevC : Nat → Sp
  | 0 => fun _ _ _ _ => False
  | m + 1 => spWith m
end OG

set_option Elab.async false
set_option linter.all false
set_option maxRecDepth 100000
set_option maxHeartbeats 4000000
namespace OG
open PySem PySem.Spec PyProof.Rows L2
/-! ### {**d, k: v} -/
section
variable {prog : Program} {w : World} {κ : Type} [DecidableEq κ] {knd : KeyKind prog w κ} {A : Around} {E : Value → Shared → Prop} {s : Shared}
theorem idxL {es : Array DictEntry} {p : DictEntry → Bool} : es.toList.findIdx? p = es.findIdx? p := by
  cases es
  simp
theorem dput_hash {d : Addr} {ps : List (κ × Value)} {k : κ} {ky u : Value} {Q : Unit → Shared → Prop} (hk : knd.is k ky = true) (hm : s.heap.DictOf knd d ps) (hz : ps.length ≤ sizeLine)
    (q : ∀ h', h'.DictOf knd d (stored ps k u) → Heap.SameBut d s.heap h' → Q () { s with heap := h' }) : wpAny (model prog w) A (dictPut d (knd.hash k) ky u) Q E s := by
  obtain ⟨o, es, ep, ho, hx, hd, hks, hp, hn⟩ := hm
  have he : es.size ≤ sizeLine := by
    have e1 := hp.length
    rw [Array.length_toList] at e1
    omega
  unfold dictPut
  refine wpAny_bind (wpAny_dictFind_of hk ho hd hks ?_)
  have ix : (es.findIdx? fun e => knd.is k e.key) = ps.findIdx? fun kv => decide (kv.1 = k) := by
    rw [← hp.findIdx k]
    exact idxL.symm
  have ixl : (es.toList.findIdx? fun e => knd.is k e.key) = es.findIdx? fun e => knd.is k e.key := idxL
  cases hix : es.findIdx? (fun en => knd.is k en.key) with
  | some i =>
    have hy := any_of_findIdx_some (ix.symm.trans hix)
    refine wpAny_updateDict ho hd (q _ ⟨_, _, ep, Heap.get?_update_self _ ho (Obj.isFreed_of_dict (Obj.data_mapDict hd _)), hx.mapDict _, Obj.data_mapDict hd _, hks.modify _ _, ?_, ?_⟩ (Heap.SameBut.update ..))
    · have m := hp.modify hn (ixl.trans hix) u
      unfold stored
      rw [if_pos hy]
      rw [Array.toList_modify]
      exact m
    · unfold stored
      rw [if_pos hy, keys_map_store]
      exact hn
  | none =>
    have hno : k ∉ ps.map (·.1) := not_mem_of_findIdx_none (ix.symm.trans hix)
    have hn2 : ¬ (ps.any fun kv => decide (kv.1 = k)) = true := fun z => by
      obtain ⟨kv, h1, h2⟩ := List.any_eq_true.mp z
      exact hno (List.mem_map.mpr ⟨kv, h1, of_decide_eq_true h2⟩)
    refine wpAny_updateDictKeys (hz := he) ho hd (q _ ⟨_, _, ep + 1, Heap.get?_update_self _ ho (Obj.isFreed_of_dict (Obj.data_mapDictKeys hd _)), hx.mapDictKeys _, Obj.data_mapDictKeys hd _, hks.push hk _, ?_, ?_⟩ (Heap.SameBut.update ..))
    · have m := hp.append hk (knd.hash k) u
      unfold stored
      rw [if_neg hn2, Array.toList_push]
      exact m
    · unfold stored
      rw [if_neg hn2, List.map_append]
      exact nd_snoc hn hno
theorem ite_pre {c : Prop} [Decidable c] {Y J : Sem Unit} {Q : Unit → Shared → Prop} (hY : c → wpAny (model prog w) A J Q E s → wpAny (model prog w) A Y Q E s) (hJ : wpAny (model prog w) A J Q E s) : wpAny (model prog w) A (if c then Y else J) Q E s := by
  by_cases h : c
  · rw [if_pos h]
    exact hY h hJ
  · rw [if_neg h]
    exact hJ
theorem merge_map {d a : Addr} {ps more : List (κ × Value)} {Q : Unit → Shared → Prop} (hda : d ≠ a) (haS : (a == sysModules) = false) (hd : s.heap.DictOf knd d ps) (ha : s.heap.DictOf knd a more) (hz : ps.length + more.length ≤ sizeLine)
    (q : ∀ h', h'.DictOf knd d (merged ps more) → Heap.SameBut d s.heap h' → Q () { s with heap := h' }) : wpAny (model prog w) A (mergeMapping d (.ref a) false) Q E s := by
  obtain ⟨o, es, ep, ho, hx, hdat, hks, hp, hn⟩ := id ha
  obtain ⟨od, esd, epd, hod, hxd, hdd, hksd, hpd, hnd⟩ := id hd
  have hlen : more.length = es.size := by
    rw [← hp.length, Array.length_toList]
  unfold mergeMapping
  refine wpAny_bind (wpAny_isInstance ha.typeIs isSubtype_dict_dict ?_)
  rw [if_pos rfl]
  refine wpAny_bind (wpAny_specialOf ha.typeIs F.slot_dict_iter.lookup (wpAny_bind (wpAny_pure ?_)))
  dsimp only
  have e1 : (some (Value.builtin "dict.__iter__") == some (Value.builtin "dict.__iter__")) = true := by simp
  rw [e1]
  dsimp only
  rw [if_neg (by rw [haS]; exact Bool.false_ne_true)]
  refine wpAny_bind (wpAny_dictEntries (o := od) hod hdd ?_)
  refine ite_pre (fun _ hj => ?_) ?_
  · refine wpAny_bind (wpAny_dictEntries (o := o) ho hdat ?_)
    refine wpAny_bind (wpAny_of_eq (a := PUnit.unit) ?_ hj)
    · rw [← Array.forIn_toList]
      refine forIn_yield_id _ (fun e he c => ?_)
      obtain ⟨k, hk, _⟩ := hks e (Array.mem_toList_iff.mp he)
      have hb := knd.byValue k _ hk
      cases hke : e.key with
      | ref b =>
        rw [hke] at hb
        cases hb
      | _ => rfl
  refine wpAny_bind (wpAny_dictEntries (o := o) ho hdat ?_)
  refine wpAny_bind (wpAny_dictEpoch (o := o) ho hdat ?_)
  refine wpAny_bind (wpAny_forIn_list _ (fun rest _ s' => ∃ h' i, s' = { s with heap := h' } ∧ rest = (List.range es.size).drop i ∧ i ≤ es.size ∧ h'.DictOf knd d (merged ps (more.take i)) ∧ h'.get? a = some o ∧ Heap.SameBut d s.heap h') _ ?_ ?_ _ _ ⟨s.heap, 0, rfl, rfl, Nat.zero_le _, by simpa [merged] using hd, ho, Heap.SameBut.refl _ _⟩)
  · rintro x rest b s' ⟨h', i, rfl, hr, hi, hd', ho', hs'⟩
    have hlt : i < es.size := by
      rcases Nat.lt_or_ge i es.size with lt | h
      · exact lt
      · rw [List.drop_eq_nil_of_le (by rw [List.length_range]; exact h)] at hr
        cases hr
    rw [List.drop_eq_getElem_cons (by rw [List.length_range]; exact hlt)] at hr
    obtain ⟨rfl, rfl⟩ := List.cons.inj hr
    rw [List.getElem_range]
    refine wpAny_bind (wpAny_dictEntries ho' hdat ?_)
    rw [Array.getElem?_eq_getElem hlt]
    have hmi : more[i]? = some (more[i]'(by omega)) := List.getElem?_eq_getElem _
    generalize more[i]'(by omega) = kv at hmi
    obtain ⟨k, v⟩ := kv
    obtain ⟨g1, g2⟩ := hp.get? (e := es[i]) (by simp [hlt]) hmi
    obtain ⟨k', g3, g4⟩ := hks es[i] (Array.getElem_mem hlt)
    obtain rfl : k' = k := knd.inj _ _ _ g3 g1
    have hl : (merged ps (more.take i)).length ≤ sizeLine := by
      have l1 := merged_length_le ps (more.take i)
      rw [List.length_take] at l1
      omega
    dsimp only
    rw [g4, g2]
    refine wpAny_bind (wpAny_holding ?_)
    rw [if_neg Bool.false_ne_true]
    refine dput_hash g1 hd' hl fun h2 hd2 hs2 => ?_
    have ho2 : h2.get? a = some o := (hs2.2 a (Ne.symm hda)).trans ho'
    refine wpAny_bind (wpAny_dictEpoch ho2 hdat ?_)
    rw [if_neg (by simp)]
    exact wpAny_pure ⟨h2, i + 1, rfl, rfl, hlt, by rw [merged_take_succ ps more i (k', v) hmi]; exact hd2, ho2, hs'.trans hs2⟩
  · rintro b s' ⟨h', i, rfl, hr, hi, hd', ho', hs'⟩
    have hin : i = es.size := by
      have := congrArg List.length hr
      rw [List.length_drop, List.length_range, List.length_nil] at this
      omega
    rw [hin, ← hlen, List.take_length] at hd'
    exact wpAny_pure (q h' hd' hs')
end
section
variable {X : Cx}
def tDStar (te tk tv : TE) : TE := fun σ H Q => ∀ p, H p = none → te σ (upd H p (.dK [])) fun x H1 => ∃ (a : Addr) (kvs : List (Key × V)), x = .ref a ∧ a ≠ p ∧ H1 p = some (.dK []) ∧ H1 a = some (.dK kvs) ∧ kvs.length < sizeLine ∧
  ∀ r, (upd H1 p (.dK kvs)) r = none → tk σ (upd (upd H1 p (.dK kvs)) r (.dK [])) fun y H3 => tv σ H3 fun z H4 => ∃ k : Key, y = kV k ∧ H4 p = some (.dK kvs) ∧ H4 r = some (.dK []) ∧ Q (.ref p) (upd (upd H4 r (.dK [(k, z)])) p (.dK (putK kvs k z)))
def starQ (p r : Addr) (kvs : List (Key × V)) (Q : VK) : List (V × V) → Hp → Prop := fun ps H4 =>
  match ps with
  | [(y, z)] => ∃ k : Key, y = kV k ∧ H4 p = some (.dK kvs) ∧ H4 r = some (.dK []) ∧ Q (.ref p) (upd (upd H4 r (.dK [(k, z)])) p (.dK (putK kvs k z)))
  | _ => False
theorem starQ_at {p r : Addr} {kvs : List (Key × V)} {Q : VK} {ps : List (V × V)} {H4 : Hp} (h : starQ p r kvs Q ps H4) : ∃ (k : Key) (z : V), ps = [(kV k, z)] ∧ H4 p = some (.dK kvs) ∧ H4 r = some (.dK []) ∧ Q (.ref p) (upd (upd H4 r (.dK [(k, z)])) p (.dK (putK kvs k z))) := by
  cases ps with
  | nil => exact h.elim
  | cons x r =>
    cases r with
    | cons _ _ => exact h.elim
    | nil =>
      obtain ⟨y, z⟩ := x
      obtain ⟨k, e, h1, h2, h3⟩ := h
      subst e
      exact ⟨k, z, rfl, h1, h2, h3⟩
theorem pe_dstar {e k v : Expr} {pos : Pos} {te tk tv : TE} (he : PE X e te) (hk : PE X k tk) (hv : PE X v tv) : PE X (.Dict [none, some k] [e, v] pos) (tDStar te tk tv) := by
  refine PE.mk fun pins s σ H Q I h => ?_
  have fresh0 := I.hok.fresh (Nat.le_refl s.heap.objs.size)
  have I1 := I.laid (a := s.heap.objs.size) (o := .dK []) (h' := s.heap.push { cls := .type "dict", data := .dict #[] }) (t' := s.toks) (fun _ _ e => Heap.get?_push_of_some _ e) (Nat.le_refl _) (dk_empty s.heap I.big)
  rw [arm_eval_Dict]
  refine wpAny_bind (wpAny_standAt ?_)
  unfold dictDisplay
  show wpAny (model X.prog X.w) X.A (dictDisplay [(none, do let x ← eval e X.env; standAt pos; pure x), (some (eval k X.env), do let x ← eval v X.env; standAt pos; pure x)]) _ _ _
  unfold dictDisplay
  simp only [List.forIn_cons, List.forIn_nil, List.isEmpty_nil, if_true, pure_bind, bind_assoc, List.nil_append, List.length_cons, List.length_nil, Nat.zero_add, Nat.reduceBEq, Bool.false_eq_true, if_false, List.isEmpty_cons]
  refine wpAny_bind (wpAny_alloc ?_)
  refine wpAny_bind (wpAny_holding (wpAny_bind (thn (he.run pins _ σ _ _ I1 (h _ fresh0)) fun u s1 ⟨x, H1, I2, rx, a, kvs, ex, nap, hp1, ha1, lz, q1⟩ => ?_)))
  subst ex
  cases rx
  refine wpAny_bind (wpAny_standAt (wpAny_pure ?_))
  obtain ⟨z0, hd0, vs0, r0, dd0⟩ := dk_of I2.hok hp1
  cases r0
  obtain ⟨z1, hd1, vs1, r1, dd1⟩ := dk_of I2.hok ha1
  have nd1 : (vs1.map (·.1)).Nodup := let ⟨_, _, _, _, _, _, _, _, n⟩ := dd1; n
  refine wpAny_bind (wpAny_onRaise (wpAny_tryCatch (wpAny_onRaise (wpAny_holding (merge_map (knd := mixKind X.prog X.w) (Ne.symm nap) hd1 dd0 dd1 ?_ fun h2 dd2 hs2 => ?_)))))
  · have := r1.length
    rw [List.length_nil]
    omega
  rw [merged_nil_of_nodup vs1 nd1] at dd2
  have he2 : ∃ q, h2.get? s.heap.objs.size = some q := let ⟨q, _, _, hq, _⟩ := dd2; ⟨q, hq⟩
  have I3 := d_write (t' := s1.toks) I2 (by rw [hp1]; exact True.intro) hs2 he2 (dk_new z1 hd0 r1 dd2)
  have hn3 := I3.hok.fresh (Nat.le_refl h2.objs.size)
  have I4 := I3.laid (a := h2.objs.size) (o := .dK []) (h' := h2.push { cls := .type "dict", data := .dict #[] }) (t' := s1.toks) (fun _ _ e => Heap.get?_push_of_some _ e) (Nat.le_refl _) (dk_empty h2 I3.big)
  have hpk := pps_cons hk hv (pps_nil (pos := pos))
  refine wpAny_bind (wpAny_holding (wpAny_subDict (knd := mixKind X.prog X.w) (by show 1 ≤ 15; decide) (thn (hpk.run pins _ σ _ (starQ s.heap.objs.size h2.objs.size kvs Q) I4 (q1 _ hn3)) fun ws s4 ⟨ps, H4, I5, rel, q4⟩ => ?_)))
  obtain ⟨k0, z, rfl, hp4, hr4, q5⟩ := starQ_at q4
  obtain ⟨rs, c, rk⟩ := carries_of (P := X.prog) (w := X.w) (kvs := [(k0, z)]) rel
  obtain ⟨z5, hd5, vs5, r5, dd5⟩ := dk_of I5.hok hr4
  cases r5
  refine ⟨rs, c, dd5, fun h6 dd6 hs6 => ?_⟩
  have he6 : ∃ q, h6.get? h2.objs.size = some q := let ⟨q, _, _, hq, _⟩ := dd6; ⟨q, hq⟩
  have I6 := d_write (t' := s4.toks + ws.length) I5 (by rw [hr4]; exact True.intro) hs6 he6 (dk_new (kvs := [(k0, z)]) (by show 1 ≤ sizeLine; decide) hd5 (rk.merge .nil) dd6)
  have npr : s.heap.objs.size ≠ h2.objs.size := fun z => by
    rw [← z, upd_same] at hn3
    cases hn3
  have hp6 : (upd H4 h2.objs.size (.dK [(k0, z)])) s.heap.objs.size = some (.dK kvs) := by rw [upd_ne npr]; exact hp4
  obtain ⟨z7, hd7, vs7, r7, dd7⟩ := dk_of I6.hok hp6
  obtain ⟨z8, hd8, vs8, r8, dd8⟩ := dk_of I6.hok (upd_same : (upd H4 h2.objs.size (.dK [(k0, z)])) h2.objs.size = _)
  refine wpAny_bind (wpAny_onRaise (wpAny_holding (merge_map (knd := mixKind X.prog X.w) npr hd8 dd7 dd8 ?_ fun h9 dd9 hs9 => wpAny_pure ?_)))
  · have e7 := r7.length
    have e8 : 1 = vs8.length := r8.length
    omega
  have he9 : ∃ q, h9.get? s.heap.objs.size = some q := let ⟨q, _, _, hq, _⟩ := dd9; ⟨q, hq⟩
  have I9 := d_write (t' := s4.toks + ws.length) I6 (by rw [hp6]; exact True.intro) hs9 he9 (dk_new (kvs := putK kvs k0 z) (Nat.le_trans (length_putK kvs k0 z) lz) hd7 (r8.merge r7) dd9)
  exact ⟨.ref s.heap.objs.size, _, I9, rfl, q5⟩
end
end OG

set_option Elab.async false
set_option linter.all false
set_option maxRecDepth 100000
set_option maxHeartbeats 4000000
namespace OG
open PySem PySem.Spec PyProof.Rows L2
/-! ### x *= y, x //= y -/
def ipC (c : Int → Int → Prop) (f : Int → Int → Int) : TIp := fun x y H Q => ∃ i j, x = .int i ∧ y = .int j ∧ c i j ∧ Q (.int (f i j)) H
theorem ip_mul {X : Cx} : PIp X .Mult (ipC CMul fun i j => i * j) := by
  intro pins s σ H x y v u Q I r1 r2 h
  obtain ⟨i, j, e1, e2, hc, q⟩ := h
  subst e1; subst e2
  obtain ⟨t, rfl⟩ := r1
  obtain ⟨t', rfl⟩ := r2
  exact imul_int ⟨.int _, H, I.tok _, ⟨_, rfl⟩, q⟩ hc.ok
theorem ip_fdiv {X : Cx} : PIp X .FloorDiv (ipC CDiv fun i j => i / j) := by
  intro pins s σ H x y v u Q I r1 r2 h
  obtain ⟨i, j, e1, e2, hc, q⟩ := h
  subst e1; subst e2
  obtain ⟨t, rfl⟩ := r1
  obtain ⟨t', rfl⟩ := r2
  have h1 : (0 : Int) < j := hc.1
  have h2 : j < 1073741824 := hc.2
  refine ifloordiv_int (by omega) ?_ (.inl (PyProof.noPylong_small (by omega)))
  rw [Int.fdiv_eq_ediv_of_nonneg i (by omega)]
  exact ⟨.int _, H, I.tok _, ⟨_, rfl⟩, q⟩
/-! ### signs -/
def sgn (n : Int) : Int := if n = 0 then 0 else if 0 < n then 1 else -1
theorem sgn_pos {n : Int} (h : 0 < n) : sgn n = 1 := by unfold sgn; rw [if_neg (by omega), if_pos h]
theorem sgn_neg {n : Int} (h : n < 0) : sgn n = -1 := by unfold sgn; rw [if_neg (by omega), if_neg (by omega)]
theorem sgn_zero : sgn 0 = 0 := rfl
theorem sgn_cases (n : Int) : (n < 0 ∧ sgn n = -1) ∨ (n = 0 ∧ sgn n = 0) ∨ (0 < n ∧ sgn n = 1) := by
  rcases Int.lt_trichotomy n 0 with h | h | h
  · exact .inl ⟨h, sgn_neg h⟩
  · subst h; exact .inr (.inl ⟨rfl, rfl⟩)
  · exact .inr (.inr ⟨h, sgn_pos h⟩)
/-! ### logarithms, rounded down -/
def flogF : Nat → Nat → Nat → Nat
  | 0, _, _ => 0
  | f + 1, b, N => if b ≤ N then flogF f b (N / b) + 1 else 0
def flog (b N : Nat) : Nat := flogF 700 b N
theorem flogF_spec : ∀ (f b N : Nat), 2 ≤ b → 1 ≤ N → N < 2 ^ f → b ^ flogF f b N ≤ N ∧ N < b ^ (flogF f b N + 1)
  | 0, b, N, hb, h1, h2 => by
    have : N < 1 := h2
    omega
  | f + 1, b, N, hb, h1, h2 => by
    unfold flogF
    by_cases h : b ≤ N
    · rw [if_pos h]
      have hd1 : 1 ≤ N / b := Nat.div_pos h (by omega)
      have hd2 : N / b < 2 ^ f := by
        refine Nat.div_lt_of_lt_mul ?_
        have e : 2 ^ (f + 1) = 2 * 2 ^ f := by rw [Nat.pow_succ, Nat.mul_comm]
        have := Nat.mul_le_mul_right (2 ^ f) hb
        omega
      obtain ⟨i1, i2⟩ := flogF_spec f b (N / b) hb hd1 hd2
      constructor
      · rw [Nat.pow_succ]
        exact (Nat.le_div_iff_mul_le (by omega)).mp i1
      · rw [Nat.pow_succ]
        exact (Nat.div_lt_iff_lt_mul (by omega)).mp i2
    · rw [if_neg h]
      constructor
      · exact h1
      · show N < b ^ 1
        rw [Nat.pow_one]
        omega
theorem log_uniq {b N i j : Nat} (hb : 2 ≤ b) (h1 : b ^ i ≤ N) (h2 : N < b ^ (i + 1)) (h3 : b ^ j ≤ N) (h4 : N < b ^ (j + 1)) : i = j := by
  have a1 : b ^ i < b ^ (j + 1) := Nat.lt_of_le_of_lt h1 h4
  have a2 : b ^ j < b ^ (i + 1) := Nat.lt_of_le_of_lt h3 h2
  have c1 := (Nat.pow_lt_pow_iff_right (a := b) (by omega)).mp a1
  have c2 := (Nat.pow_lt_pow_iff_right (a := b) (by omega)).mp a2
  omega
/-! ### growths -/
def Gs : List (Nat × Nat) := [(1, 2), (2, 3), (2, 2), (4, 3), (5, 3), (3, 2), (6, 3), (7, 3), (8, 3), (4, 2), (5, 2), (6, 2), (7, 2), (8, 2), (9, 2), (16, 2), (32, 2), (64, 2), (128, 2), (256, 2), (512, 2)]
def rank (p : Nat × Nat) : Int := (Gs.findIdx (fun q => q == p) : Nat)
def fdiff (p q : Nat × Nat) (u : Nat) : Int := (flog p.2 (p.1 ^ u) : Int) - (flog q.2 (q.1 ^ u) : Int)
def chk (p q : Nat × Nat) : Bool :=
  decide (p = q) || ((List.range 6).any (fun u => decide (fdiff p q (u + 1) ≠ 0)) && (List.range 6).all (fun u => decide (fdiff p q (u + 1) = 0) || decide (sgn (fdiff p q (u + 1)) = sgn (rank p - rank q))) && (decide (p.2 ≠ q.2) || decide (sgn ((p.1 : Int) - q.1) = sgn (rank p - rank q))))
theorem chk_all : Gs.all (fun p => Gs.all (fun q => chk p q)) = true := by decide +kernel
theorem chk_of {p q : Nat × Nat} (hp : p ∈ Gs) (hq : q ∈ Gs) : chk p q = true := List.all_eq_true.mp (List.all_eq_true.mp chk_all p hp) q hq
theorem gs_small : ∀ p ∈ Gs, 1 ≤ p.1 ∧ p.1 ≤ 512 ∧ (p.2 = 2 ∨ p.2 = 3) ∧ (p.2 = 3 → p.1 % 3 ≠ 0 ∨ p.1 = 6) ∧ (p.2 = 3 → p.1 ≠ 1 ∧ p.1 ≠ 3 ∧ p.1 ≠ 9) := by
  have h : Gs.all (fun p => decide (1 ≤ p.1 ∧ p.1 ≤ 512 ∧ (p.2 = 2 ∨ p.2 = 3) ∧ (p.2 = 3 → p.1 % 3 ≠ 0 ∨ p.1 = 6) ∧ (p.2 = 3 → p.1 ≠ 1 ∧ p.1 ≠ 3 ∧ p.1 ≠ 9))) = true := by decide +kernel
  exact fun p hp => of_decide_eq_true (List.all_eq_true.mp h p hp)
theorem rank_nn (p : Nat × Nat) : 0 ≤ rank p := Int.natCast_nonneg _
/-- two unlike growths are told apart at a power of six at most, and the first one at which they are tells their order -/
theorem tell {p q : Nat × Nat} (hp : p ∈ Gs) (hq : q ∈ Gs) (hne : p ≠ q) :
    (∃ U, 1 ≤ U ∧ U ≤ 6 ∧ fdiff p q U ≠ 0) ∧ (∀ u, 1 ≤ u → u ≤ 6 → fdiff p q u ≠ 0 → sgn (fdiff p q u) = sgn (rank p - rank q)) ∧ (p.2 = q.2 → sgn ((p.1 : Int) - q.1) = sgn (rank p - rank q)) := by
  have h := chk_of hp hq
  unfold chk at h
  rw [decide_eq_false hne, Bool.false_or, Bool.and_eq_true, Bool.and_eq_true] at h
  obtain ⟨⟨h1, h2⟩, h3⟩ := h
  refine ⟨?_, fun u u1 u6 hu => ?_, fun he => ?_⟩
  · obtain ⟨u, hu, hd⟩ := List.any_eq_true.mp h1
    have := List.mem_range.mp hu
    exact ⟨u + 1, by omega, by omega, of_decide_eq_true hd⟩
  · have := List.all_eq_true.mp h2 (u - 1) (List.mem_range.mpr (by omega))
    rw [show u - 1 + 1 = u by omega, decide_eq_false hu, Bool.false_or] at this
    exact of_decide_eq_true this
  · rw [decide_eq_false (fun z => z he), Bool.false_or] at h3
    exact of_decide_eq_true h3
theorem sgn_ne {n : Int} (h : sgn n ≠ 0) : n ≠ 0 := fun e => h (by rw [e]; rfl)
abbrev Gr := Option ((Nat × Nat) × Nat)
def encG : Gr → D
  | none => .non
  | some (p, f) => .tup [.int p.1, .int p.2, .int f]
def GOk : Gr → Prop
  | none => True
  | some (p, f) => p ∈ Gs ∧ f ≤ 10
def gval : Gr → Int
  | none => 0
  | some (p, f) => 1 + rank p * 16 + f
theorem gval_ne {p q : Nat × Nat} {f g : Nat} (hp : p ∈ Gs) (hq : q ∈ Gs) (hf : f ≤ 10) (hg : g ≤ 10) (hne : p ≠ q) : sgn (gval (some (p, f)) - gval (some (q, g))) = sgn (rank p - rank q) ∧ sgn (rank p - rank q) ≠ 0 := by
  obtain ⟨⟨U, u1, u2, hU⟩, h2, _⟩ := tell hp hq hne
  have e := h2 U u1 u2 hU
  have hz : sgn (rank p - rank q) ≠ 0 := by
    rw [← e]
    rcases sgn_cases (fdiff p q U) with ⟨_, h⟩ | ⟨h, _⟩ | ⟨_, h⟩
    · rw [h]; decide
    · exact absurd h hU
    · rw [h]; decide
  refine ⟨?_, hz⟩
  show sgn (1 + rank p * 16 + f - (1 + rank q * 16 + g)) = _
  rcases sgn_cases (rank p - rank q) with ⟨h, k⟩ | ⟨h, k⟩ | ⟨h, k⟩
  · rw [k, sgn_neg (by omega)]
  · exact absurd k hz
  · rw [k, sgn_pos (by omega)]
theorem gval_eq {p : Nat × Nat} {f g : Nat} : gval (some (p, f)) - gval (some (p, g)) = (f : Int) - g := by
  show 1 + rank p * 16 + f - (1 + rank p * 16 + g) = _
  omega
theorem gval_some {p : Nat × Nat} {f : Nat} : 0 < gval (some (p, f)) := by
  have := rank_nn p
  show 0 < 1 + rank p * 16 + (f : Int)
  omega
/-- the order of growths is that of numbers -/
theorem ord_turn (x y : Int) : sgn (x - y) = 0 - sgn (y - x) := by
  rcases sgn_cases (x - y) with ⟨h, k⟩ | ⟨h, k⟩ | ⟨h, k⟩
  · rw [k, sgn_pos (by omega)]; rfl
  · rw [k, show y - x = 0 by omega]; rfl
  · rw [k, sgn_neg (by omega)]; rfl
theorem ord_three (x y z : Int) (h : 0 ≤ sgn (x - y)) : sgn (y - z) < 0 ∨ 0 ≤ sgn (x - z) := by
  rcases sgn_cases (x - y) with ⟨h1, k1⟩ | ⟨h1, k1⟩ | ⟨h1, k1⟩ <;> rcases sgn_cases (y - z) with ⟨h2, k2⟩ | ⟨h2, k2⟩ | ⟨h2, k2⟩ <;> rcases sgn_cases (x - z) with ⟨h3, k3⟩ | ⟨h3, k3⟩ | ⟨h3, k3⟩ <;> omega
theorem pow_small {p : Nat × Nat} {u : Nat} (hp : p ∈ Gs) (hu : u ≤ 60) : 1 ≤ p.1 ^ u ∧ p.1 ^ u < 2 ^ 700 := by
  obtain ⟨h1, h2, _⟩ := gs_small p hp
  refine ⟨Nat.pow_pos h1, ?_⟩
  have a : p.1 ^ u ≤ 512 ^ u := Nat.pow_le_pow_left h2 u
  have b : 512 ^ u ≤ 512 ^ 60 := Nat.pow_le_pow_right (by decide) hu
  have c : 512 ^ 60 < 2 ^ 700 := by decide +kernel
  omega
theorem flog_spec {p : Nat × Nat} {u : Nat} (hp : p ∈ Gs) (hu : u ≤ 60) : p.2 ^ flog p.2 (p.1 ^ u) ≤ p.1 ^ u ∧ p.1 ^ u < p.2 ^ (flog p.2 (p.1 ^ u) + 1) := by
  obtain ⟨h1, h2⟩ := pow_small hp hu
  obtain ⟨_, _, h3, _⟩ := gs_small p hp
  exact flogF_spec 700 _ _ (by omega) h1 h2
/-! ### promises -/
def spSign : Sp := fun vs H Q _ => ∃ n : Int, vs = [.int n] ∧ Q (.int (sgn n)) H
def spPower : Sp := fun vs H Q _ => ∃ (b : Int) (e : Nat), vs = [.int b, .int e] ∧ -(2 ^ 64) < b ∧ b < 2 ^ 64 ∧ e ≤ 1000 ∧ Q (.int (b ^ e)) H
def spToldG : Sp := fun vs H Q _ => ∃ (p : Nat × Nat) (f : Nat), vs = [.int p.1, .int p.2, .int f] ∧ p ∈ Gs ∧ ∀ v H', Same H H' → Rp H' v (encG (some (p, f))) → Q v H'
def spWhole : Sp := fun vs H Q _ => ∃ (v : V) (p : Nat × Nat) (f u : Nat), vs = [v, .int u] ∧ Rp H v (encG (some (p, f))) ∧ p ∈ Gs ∧ 1 ≤ u ∧ u ≤ 60 ∧ Q (.int (flog p.2 (p.1 ^ u))) H
def spRoot : Sp := fun vs H Q _ => ∃ (p : Nat × Nat) (u : Nat), vs = [.int p.1, .int p.2, .int u] ∧ p ∈ Gs ∧ 1 ≤ u ∧ u ≤ 60 ∧ Q (.int (flog p.2 (p.1 ^ u))) H
def spOrder : Sp := fun vs H Q _ => ∃ (v w : V) (p q : Nat × Nat) (f g : Nat), vs = [v, w] ∧ Rp H v (encG (some (p, f))) ∧ Rp H w (encG (some (q, g))) ∧ p ∈ Gs ∧ q ∈ Gs ∧ Q (.int (sgn (rank p - rank q))) H
def spGreater : Sp := fun vs H Q _ => ∃ (v w : V) (g h : Gr), vs = [v, w] ∧ Rp H v (encG g) ∧ Rp H w (encG h) ∧ GOk g ∧ GOk h ∧ ∀ H', Same H H' → Q (.int (sgn (gval g - gval h))) H'
def spDrawnG : Sp := fun vs H Q _ => ∃ (d L : Addr), vs = [.ref d] ∧ Dr H d L ∧ ∀ (v : V) (g : Gr) (H' : Hp), Rp H' v (encG g) → GOk g → Dr H' d L → Go (· = d) H H' → Q v H'
end OG

set_option Elab.async false
set_option linter.all false
set_option maxRecDepth 100000
set_option maxHeartbeats 4000000
namespace OG
open PySem PySem.Spec PyProof.Rows L2
/-! ### the steps of a plan, and the visits that a walk makes -/
def endV (env : Str → Int) (e : Str × Int) : Int := env e.1 + e.2
def setE (env : Str → Int) (x : Str) (i : Int) : Str → Int := fun y => if y = x then i else env y
def env0 (s : Int) : Str → Int := fun y => if y = "n" then s else 0
/-- n turns of f from lo -/
def turns (f : Int → Int × Nat) (lo : Int) : Nat → Int × Nat
  | 0 => (0, 0)
  | n + 1 => ((turns f lo n).1 + (f (lo + n)).1, (turns f lo n).2 + (1 + (f (lo + n)).2))
def isAg : Thing → Bool
  | .again _ _ => true
  | _ => false
mutual
def stT (C : Str → Int → Int × Nat) (env : Str → Int) : Thing → Int × Nat
  | .step k => (k, 0)
  | .loop x a b body => turns (fun i => stB C (setE env x i) body) (endV env a) (endV env b + 1 - endV env a).toNat
  | .test a b x y => if endV env a ≤ endV env b then stB C env x else stB C env y
  | .twice b => turns (fun _ => stB C env b) 0 (Builtin.Int.intBits (env "n"))
  | .call x e => C x (if 0 < endV env e then endV env e else 0)
  | .again _ _ => (0, 0)
def stB (C : Str → Int → Int × Nat) (env : Str → Int) : List Thing → Int × Nat
  | [] => (0, 0)
  | t :: r => if isAg t = true then stB C env r else ((stT C env t).1 + (stB C env r).1, 1 + (stT C env t).2 + (stB C env r).2)
end
/-- the again of a plan -/
def wayOf : List Thing → Option (Int × Str)
  | [] => none
  | .again k w :: _ => some (k, w)
  | _ :: r => wayOf r
def less (s : Int) (w : Str) : Int := if w = "less" then s - 1 else if w = "halves" then s / 2 else s / 3
/-- a plan with an again: fuel, what it counts times, the size -/
def agS (f : Int → Int × Nat) (k : Int) (w : Str) : Nat → Int → Int → Int × Nat
  | 0, m, s => (m * (f s).1, (f s).2)
  | n + 1, m, s => if s = 0 then (m * (f s).1, (f s).2) else (m * (f s).1 + (agS f k w n (m * k) (less s w)).1, (f s).2 + (1 + (agS f k w n (m * k) (less s w)).2))
def planS (C : Str → Int → Int × Nat) (ts : List Thing) (s : Int) : Int × Nat :=
  match wayOf ts with
  | none => stB C (env0 s) ts
  | some (k, w) => agS (fun s => stB C (env0 s) ts) k w s.toNat 1 s
abbrev Pls := Str → Option (List Thing)
def callS (Pl : Pls) : Nat → Str → Int → Int × Nat
  | 0, _, _ => (0, 0)
  | d + 1, x, s =>
    match Pl x with
    | none => (0, 0)
    | some ts => planS (callS Pl d) ts s
/-- a plan whose calls go d deep -/
def Rk (Pl : Pls) : Nat → Str → Prop
  | 0, _ => False
  | d + 1, x => ∃ ts, Pl x = some ts ∧ TsOk (Rk Pl d) True ["n"] 4 ts ∧ cntB ts ≤ 1000 ∧ ∀ k w, wayOf ts = some (k, w) → 1 ≤ k ∧ k ≤ 9 ∧ (w = "less" → k = 1)
/-! ### on the heap -/
def wfs (pd : Addr) (l : Int) : List (Str × V) := [("plans", .ref pd), ("left", .int l)]
def WkAt (H : Hp) (CW o dx pd : Addr) (l : Int) : Prop := H o = some (.ins CW dx (wfs pd l))
def PlAt (H : Hp) (pd : Addr) (Pl : Pls) : Prop := ∃ kvs : List (Key × V), Rd H pd (.dK kvs) ∧ ∀ x ts, Pl x = some ts → ∃ v, valV kvs (.inr x) = some v ∧ Rp H v (.tup (encs ts))
def ScAt (H : Hp) (a : Addr) (sc : List Str) (env : Str → Int) (m : Nat) : Prop := ∃ kvs : List (Key × V), H a = some (.dK kvs) ∧ kvs.length + m ≤ 100 ∧ ∀ x ∈ sc, valV kvs (.inr x) = some (.int (env x))
/-- no figure is too great -/
def Bd (B : Int) (env : Str → Int) (sc : List Str) : Prop := ∀ x ∈ sc, -B ≤ env x ∧ env x ≤ B
theorem WkAt.noTup {H : Hp} {CW o dx pd : Addr} {l : Int} (h : WkAt H CW o dx pd l) : ∀ xs, H o ≠ some (.tup xs) := fun xs e => by
  rw [h] at e
  cases e
theorem rd_get {H : Hp} {a : Addr} {kvs : List (Key × V)} {k : Key} (e : Rd H a (.dK kvs)) : DGet H a (kV k) (valV kvs k) := .inl ⟨kvs, k, e, rfl, rfl⟩
theorem rd_ne {H : Hp} {a b : Addr} {kvs : List (Key × V)} {u : HO} (h : Rd H a (.dK kvs)) (hb : H b = some u) (n1 : ∀ ks, HO.dK ks ≠ u) (n2 : ∀ o x, HO.frz o x ≠ u) : a ≠ b := by
  rcases h with h | ⟨o, h⟩
  · exact ne_of h hb (n1 _)
  · exact ne_of h hb (n2 _ _)
theorem rd_same {H H' : Hp} {a : Addr} {u : HO} (h : Rd H a u) (s : Same H H') : Rd H' a u := by
  rcases h with h | ⟨o, h⟩
  · exact .inl (s _ _ h)
  · exact .inr ⟨o, s _ _ h⟩
theorem rd_go {M : Addr → Prop} {H H' : Hp} {a : Addr} {u : HO} (h : Rd H a u) (g : Go M H H') (n : ¬ M a) : Rd H' a u := by
  rcases h with h | ⟨o, h⟩
  · exact .inl (g.at h n)
  · exact .inr ⟨o, g.at h n⟩
theorem PlAt.to {M : Addr → Prop} {H H' : Hp} {pd : Addr} {Pl : Pls} (h : PlAt H pd Pl) (g : Go M H H') (n : ¬ M pd) : PlAt H' pd Pl := by
  obtain ⟨kvs, h1, h2⟩ := h
  refine ⟨kvs, rd_go h1 g n, fun x ts hx => ?_⟩
  obtain ⟨v, h3, h4⟩ := h2 x ts hx
  exact ⟨v, h3, h4.to g.im⟩
theorem PlAt.go {H H' : Hp} {CW o dx pd : Addr} {l : Int} {Pl : Pls} (hW : WkAt H CW o dx pd l) (h : PlAt H pd Pl) (g : Go (· = o) H H') : PlAt H' pd Pl := by
  refine h.to g ?_
  obtain ⟨kvs, h1, h2⟩ := h
  exact rd_ne h1 hW (fun _ z => by cases z) (fun _ _ z => by cases z)
theorem ScAt.go {H H' : Hp} {CW o dx pd a : Addr} {l : Int} {sc : List Str} {env : Str → Int} {m : Nat} (hW : WkAt H CW o dx pd l) (h : ScAt H a sc env m) (g : Go (· = o) H H') : ScAt H' a sc env m := by
  obtain ⟨kvs, h1, h2, h3⟩ := h
  exact ⟨kvs, g.at h1 (ne_of h1 hW (fun z => by cases z)), h2, h3⟩
/-! ### contracts -/
def spEndV : Sp := fun vs H Q _ => ∃ (v : V) (a : Addr) (e : Str × Int) (sc : List Str) (env : Str → Int) (m : Nat), vs = [v, .ref a] ∧ Rp H v (encE e) ∧ ScAt H a sc env m ∧ e.1 ∈ sc ∧ Q (.int (endV env e)) H
def spVisit (CW : Addr) : Sp := fun vs H Q _ => ∃ (o dx pd : Addr) (l : Int), vs = [.ref o] ∧ WkAt H CW o dx pd l ∧ 1 ≤ l ∧ Q .non (upd H o (.ins CW dx (wfs pd (l - 1))))
def spAgOf : Sp := fun vs H Q _ => ∃ (v : V) (ts : List Thing), vs = [v] ∧ Rp H v (.tup (encs ts)) ∧ ∀ u, (match wayOf ts with | none => u = .non | some (k, w) => ∃ a, u = .ref a ∧ H a = some (.tup [.str "again", .int k, .str w])) → Q u H
def spLess : Sp := fun vs H Q _ => ∃ (s : Int) (w : Str), vs = [.int s, .str w] ∧ Q (.int (less s w)) H
/-- what a def that walks asks for -/
structure WIn (H : Hp) (CW o dx pd a : Addr) (l : Int) (Pl : Pls) (sc : List Str) (env : Str → Int) (n d : Nat) : Prop where
  wk : WkAt H CW o dx pd l
  pl : PlAt H pd Pl
  scp : ScAt H a ("" :: sc) env (n + 1)
  nin : ("n" : Str) ∈ sc
  e0 : env "" = 0
  n0 : 0 ≤ env "n"
  bd : ∃ B : Int, Bd B env sc ∧ 0 ≤ B ∧ B + 100 * n + 1000 * d ≤ 65536
def WOut (H : Hp) (CW o dx pd : Addr) (l : Int) (r : Int × Nat) (Q : VK) : Prop := (r.2 : Int) ≤ l ∧ ∀ H', WkAt H' CW o dx pd (l - r.2) → Go (· = o) H H' → Q (.int r.1) H'
def spSt (CW : Addr) (kind : Thing → Prop) (n d : Nat) : Sp := fun vs H Q _ => ∃ (o dx pd a : Addr) (l : Int) (Pl : Pls) (sc : List Str) (env : Str → Int) (v : V) (t : Thing), vs = [.ref o, v, .ref a] ∧ kind t ∧ WIn H CW o dx pd a l Pl sc env n d ∧ Rp H v (enc t) ∧ TOk (Rk Pl d) True sc n t ∧ cntT t ≤ 1000 ∧ WOut H CW o dx pd l (stT (callS Pl d) env t) Q
def spBs (CW : Addr) (n d : Nat) : Sp := fun vs H Q _ => ∃ (o dx pd a : Addr) (l : Int) (Pl : Pls) (sc : List Str) (env : Str → Int) (v : V) (ts : List Thing), vs = [.ref o, v, .ref a] ∧ WIn H CW o dx pd a l Pl sc env n d ∧ Rp H v (.tup (encs ts)) ∧ TsOk (Rk Pl d) True sc n ts ∧ cntB ts ≤ 1000 ∧ WOut H CW o dx pd l (stB (callS Pl d) env ts) Q
def spPs (CW : Addr) (d : Nat) : Sp := fun vs H Q _ => ∃ (o dx pd : Addr) (l : Int) (Pl : Pls) (x : Str) (s : Int), vs = [.ref o, .str x, .int s] ∧ WkAt H CW o dx pd l ∧ PlAt H pd Pl ∧ Rk Pl d x ∧ 0 ≤ s ∧ s + 1000 * d ≤ 66136 ∧ WOut H CW o dx pd l (callS Pl d x s) Q
def prevW (CW : Addr) (d : Nat) : Nat → Sp
  | 0 => fun _ _ _ _ => False
  | m + 1 => spBs CW m d
def prevQ (CW : Addr) : Nat → Sp
  | 0 => fun _ _ _ _ => False
  | d + 1 => spPs CW (d + 1)
theorem pe_alt {X : Cx} {e : Expr} {t1 t2 : TE} (h1 : PE X e t1) (h2 : PE X e t2) : PE X e (fun σ H Q => t1 σ H Q ∨ t2 σ H Q) :=
  ⟨fun pins s σ H Q I h => h.elim (h1.run pins s σ H Q I) (h2.run pins s σ H Q I)⟩
theorem wk_set {H : Hp} {CW o dx pd : Addr} {l : Int} (l' : Int) (h : WkAt H CW o dx pd l) : WkAt (upd H o (.ins CW dx (wfs pd l'))) CW o dx pd l' ∧ Go (· = o) H (upd H o (.ins CW dx (wfs pd l'))) :=
  ⟨upd_same, (Sx.refl _ H).upd_in rfl, (Imm.refl H).upd h.noTup⟩
theorem turns_le {f : Int → Int × Nat} {lo : Int} {j N : Nat} (h : j ≤ N) : (turns f lo j).2 ≤ (turns f lo N).2 := by
  induction N with
  | zero =>
    have : j = 0 := by omega
    rw [this]
    exact Nat.le_refl _
  | succ N ih =>
    by_cases e : j = N + 1
    · rw [e]
      exact Nat.le_refl _
    · have := ih (by omega)
      show _ ≤ (turns f lo N).2 + _
      omega
theorem turns_lt {f : Int → Int × Nat} {lo : Int} {j N : Nat} (h : j < N) : (turns f lo j).2 + (1 + (f (lo + j)).2) ≤ (turns f lo N).2 := turns_le (j := j + 1) h
theorem end_in {sc : List Str} {e : Str × Int} (h : EndOk sc e) : e.1 ∈ (("" : Str) :: sc) := h.elim (fun z => by rw [z.1]; exact List.mem_cons_self) (fun z => List.mem_cons_of_mem _ z.1)
theorem end_bd {sc : List Str} {e : Str × Int} {env : Str → Int} {B : Int} (h : EndOk sc e) (hb : Bd B env sc) (h0 : env "" = 0) (hB : 0 ≤ B) : -(B + 99) ≤ endV env e ∧ endV env e ≤ B + 99 := by
  unfold endV
  rcases h with ⟨h1, h2, h3⟩ | ⟨h1, h2, h3⟩
  · rw [h1, h0]
    omega
  · have := hb _ h1
    omega
theorem name_ne {x : Str} (h : nameB x = true) : x ≠ "" := fun z => by
  have := (name_len h).1
  rw [z] at this
  exact absurd this (by decide)
theorem name_nn {x : Str} (h : nameB x = true) : x ≠ "n" := fun z => by
  rw [z] at h
  revert h
  decide +kernel
theorem bd_set {B : Int} {env : Str → Int} {sc : List Str} {x : Str} {i : Int} (h : Bd B env sc) (h1 : -(B + 99) ≤ i) (h2 : i ≤ B + 99) : Bd (B + 99) (setE env x i) (sc ++ [x]) := fun y hy => by
  unfold setE
  by_cases e : y = x
  · rw [if_pos e]
    exact ⟨h1, h2⟩
  · rw [if_neg e]
    rcases List.mem_append.mp hy with h3 | h3
    · have := h y h3
      omega
    · exact absurd (List.mem_singleton.mp h3) e
theorem star_ne {H : Hp} {p r : Addr} {u1 u2 : HO} (nr : (upd (upd H p u1) p u2) r = none) : p ≠ r := fun z => by
  rw [← z, upd_same] at nr
  cases nr
theorem star_same {H : Hp} {p r : Addr} {u1 u2 u3 u4 u5 : HO} (np : H p = none) (nr : (upd (upd H p u1) p u2) r = none) : Same H (upd (upd (upd (upd (upd H p u1) p u2) r u3) r u4) p u5) := fun b u hb => by
  have n1 : b ≠ p := ne_of_none hb np
  have n2 : b ≠ r := fun z => by
    rw [← z, upd_ne n1, upd_ne n1, hb] at nr
    cases nr
  rw [upd_ne n1, upd_ne n2, upd_ne n2, upd_ne n1, upd_ne n1]
  exact hb
theorem cnt_body {x : Str} {a b : Str × Int} {c : List Thing} (h : cntT (.loop x a b c) ≤ 1000) : cntB c ≤ 1000 := by
  have h' : 1 + cntB c ≤ 1000 := h
  omega
theorem sc_set {H' : Hp} {p : Addr} {sc : List Str} {env : Str → Int} {m : Nat} {x : Str} {i : Int} {kvs : List (Key × V)} (hl : kvs.length + (m + 1) ≤ 100) (h : ∀ y ∈ (("" : Str) :: sc), valV kvs (.inr y) = some (.int (env y))) (hp : H' p = some (.dK (putK kvs (.inr x) (.int i)))) : ScAt H' p (("" : Str) :: (sc ++ [x])) (setE env x i) m := by
  refine ⟨_, hp, by have := length_putK kvs (.inr x) (V.int i); omega, fun y hy => ?_⟩
  rw [valV_put]
  unfold setE
  by_cases e : y = x
  · rw [e, if_pos rfl, if_pos rfl]
  · rw [if_neg (fun z => e (Sum.inr.inj z)), if_neg e]
    rcases List.mem_cons.mp hy with h1 | h1
    · rw [h1]
      exact h _ List.mem_cons_self
    · rcases List.mem_append.mp h1 with h2 | h2
      · exact h _ (List.mem_cons_of_mem _ h2)
      · exact absurd (List.mem_singleton.mp h2) e
theorem plan_in {H H' : Hp} {CW o dx pd p : Addr} {l l' : Int} {Pl : Pls} {sz : Int} {d : Nat} (hW : WkAt H CW o dx pd l) (hP : PlAt H pd Pl) (g : Go (· = o) H H') (hW' : WkAt H' CW o dx pd l') (hp : H' p = some (.dK (mergeK [] [(.inr "", .int 0), (.inr "n", .int sz)]))) (h0 : 0 ≤ sz) (hb : sz + 1000 * d ≤ 65136) : WIn H' CW o dx pd p l' Pl ["n"] (env0 sz) 4 d := by
  have en : env0 sz "n" = sz := if_pos rfl
  have ee : env0 sz "" = 0 := if_neg (by decide +kernel)
  have hv : ∀ y ∈ (["", "n"] : List Str), valV (mergeK [] [(.inr "", V.int 0), (.inr "n", V.int sz)]) (.inr y : Key) = some (.int (env0 sz y)) := fun y hy => by
    show valV (putK (putK [] (.inr "" : Key) (V.int 0)) (.inr "n") (V.int sz)) (.inr y) = _
    rw [valV_put, valV_put]
    rcases List.mem_cons.mp hy with rfl | hy
    · rw [if_neg (fun z => absurd (Sum.inr.inj z) (by decide +kernel)), if_pos rfl, ee]
    · rw [List.mem_singleton.mp hy, if_pos rfl, en]
  refine ⟨hW', hP.go hW g, ⟨_, hp, ?_, hv⟩, List.mem_singleton.mpr rfl, ee, by rw [en]; exact h0, sz, fun y hy => ?_, h0, by omega⟩
  · have := length_mergeK [(.inr "", V.int 0), (.inr "n", V.int sz)] ([] : List (Key × V))
    have e2 : ([(.inr "", V.int 0), (.inr "n", V.int sz)] : List (Key × V)).length = 2 := rfl
    have e3 : ([] : List (Key × V)).length = 0 := rfl
    omega
  · rw [List.mem_singleton.mp hy, en]
    omega
/-! times stay small -/
def TmOk (m sz s : Int) (w : Str) : Prop := (w = "less" ∧ m = 1) ∨ (w ≠ "less" ∧ ∃ i : Nat, i ≤ 17 ∧ 0 ≤ m ∧ m ≤ 9 ^ i ∧ (0 < sz → sz * 2 ^ i ≤ s))
theorem powle {b : Int} (hb : 1 ≤ b) {i j : Nat} (h : i ≤ j) : b ^ i ≤ b ^ j := by
  induction j with
  | zero =>
    have : i = 0 := by omega
    rw [this]
    exact Int.le_refl _
  | succ j ih =>
    by_cases e : i = j + 1
    · rw [e]
      exact Int.le_refl _
    · have h1 := ih (by omega)
      have h2 := Int.mul_le_mul_of_nonneg_left hb (Int.pow_nonneg (m := j) (show (0 : Int) ≤ b by omega))
      rw [Int.mul_one] at h2
      rw [Int.pow_succ]
      exact Int.le_trans h1 h2
theorem TmOk.lt {m sz s : Int} {w : Str} (h : TmOk m sz s w) : -(2 ^ 64) < m ∧ m < 2 ^ 64 := by
  rcases h with ⟨_, h⟩ | ⟨_, i, h1, h2, h3, _⟩
  · rw [h]
    decide
  · have e : (9 : Int) ^ i ≤ 9 ^ 17 := powle (by decide) h1
    have e2 : (9 : Int) ^ 17 < 2 ^ 64 := by decide
    have e3 : (-(2 ^ 64) : Int) < 0 := by decide
    exact ⟨Int.lt_of_lt_of_le e3 h2, Int.lt_of_le_of_lt (Int.le_trans h3 e) e2⟩
theorem less_lt {sz : Int} {w : Str} (h : 0 < sz) : 0 ≤ less sz w ∧ less sz w < sz ∧ (w ≠ "less" → less sz w * 2 ≤ sz) := by
  unfold less
  split
  · rename_i e
    exact ⟨by omega, by omega, fun z => absurd e z⟩
  · split <;> exact ⟨by omega, by omega, fun _ => by omega⟩
theorem TmOk.next {m sz s k : Int} {w : Str} (h : TmOk m sz s w) (hs : 0 < sz) (hS : s < 131072) (k1 : 1 ≤ k) (k9 : k ≤ 9) (kl : w = "less" → k = 1) : TmOk (m * k) (less sz w) s w := by
  rcases h with ⟨e, h⟩ | ⟨e, i, h1, h2, h3, h4⟩
  · exact .inl ⟨e, by rw [h, kl e]; rfl⟩
  · have h5 := h4 hs
    have pp : (0 : Int) < 2 ^ i := Int.pow_pos (by decide)
    have h6 : (2 : Int) ^ i ≤ sz * 2 ^ i := by
      have := Int.mul_le_mul_of_nonneg_right (show (1 : Int) ≤ sz by omega) (Int.le_of_lt pp)
      rw [Int.one_mul] at this
      exact this
    have h7 : i < 17 := by
      rcases Nat.lt_or_ge i 17 with z | z
      · exact z
      · have e1 : (2 : Int) ^ 17 ≤ 2 ^ i := powle (by decide) z
        have e2 : (2 : Int) ^ 17 = 131072 := by decide
        omega
    refine .inr ⟨e, i + 1, by omega, Int.mul_nonneg h2 (by omega), ?_, fun _ => ?_⟩
    · rw [Int.pow_succ]
      exact Int.mul_le_mul h3 k9 (by omega) (Int.pow_nonneg (by decide))
    · have e1 : less sz w * 2 ^ (i + 1) = (less sz w * 2) * 2 ^ i := by rw [Int.pow_succ, Int.mul_comm (2 ^ i) 2, Int.mul_assoc]
      rw [e1]
      exact Int.le_trans (Int.mul_le_mul_of_nonneg_right ((less_lt hs).2.2 e) (Int.le_of_lt pp)) h5
/-! ### the law's own walk -/
def LfAt (H : Hp) (L : Addr) (n : Int) : Prop := H L = some (.lst [.int n])
theorem lf_set {H : Hp} {L : Addr} {n : Int} (m : Int) (h : LfAt H L n) : LfAt (upd H L (.lst [.int m])) L m ∧ Go (· = L) H (upd H L (.lst [.int m])) := ⟨upd_same, (Go.refl _ H).set rfl h⟩
theorem PlAt.goL {H H' : Hp} {L pd : Addr} {n : Int} {Pl : Pls} (hL : LfAt H L n) (h : PlAt H pd Pl) (g : Go (· = L) H H') : PlAt H' pd Pl := by
  refine h.to g ?_
  obtain ⟨kvs, h1, h2⟩ := h
  exact rd_ne h1 hL (fun _ z => by cases z) (fun _ _ z => by cases z)
theorem ScAt.goL {H H' : Hp} {L a : Addr} {n : Int} {sc : List Str} {env : Str → Int} {m : Nat} (hL : LfAt H L n) (h : ScAt H a sc env m) (g : Go (· = L) H H') : ScAt H' a sc env m := by
  obtain ⟨kvs, h1, h2, h3⟩ := h
  exact ⟨kvs, g.at h1 (ne_of h1 hL (fun z => by cases z)), h2, h3⟩
structure LIn (H : Hp) (pd a L : Addr) (l : Int) (Pl : Pls) (sc : List Str) (env : Str → Int) (n d : Nat) : Prop where
  lf : LfAt H L l
  pl : PlAt H pd Pl
  scp : ScAt H a sc env (n + 1)
  nin : ("n" : Str) ∈ sc
  e0 : env "" = 0
  n0 : 0 ≤ env "n"
  bd : ∃ B : Int, Bd B env sc ∧ 0 ≤ B ∧ B + 100 * n + 1000 * d ≤ 65536
theorem LIn.go {H H' : Hp} {pd a L : Addr} {l l' : Int} {Pl : Pls} {sc : List Str} {env : Str → Int} {n d : Nat} (h : LIn H pd a L l Pl sc env n d) (g : Go (· = L) H H') (hl : LfAt H' L l') : LIn H' pd a L l' Pl sc env n d :=
  ⟨hl, h.pl.goL h.lf g, h.scp.goL h.lf g, h.nin, h.e0, h.n0, h.bd⟩
/-- where the walk did not weary, its steps and visits are told -/
def LOut (H : Hp) (L : Addr) (l : Int) (r : Int × Nat) (Q : VK) : Prop := ∀ (v l' : Int) (H' : Hp), (0 ≤ l' → v = r.1 ∧ l' = l - r.2) → LfAt H' L l' → Go (· = L) H H' → Q (.int v) H'
def spComes : Sp := fun vs H Q _ => ∃ (v : V) (a : Addr) (e : Str × Int) (sc : List Str) (env : Str → Int) (m : Nat), vs = [v, .ref a] ∧ Rp H v (encE e) ∧ ScAt H a sc env m ∧ env "" = 0 ∧ EndOk sc e ∧ Q (.int (endV env e)) H
def spLSt (n d : Nat) : Sp := fun vs H Q _ => ∃ (pd a L : Addr) (l : Int) (Pl : Pls) (sc : List Str) (env : Str → Int) (v : V) (t : Thing), vs = [.ref pd, v, .ref a, .ref L] ∧ isAg t = false ∧ LIn H pd a L l Pl sc env n d ∧ Rp H v (enc t) ∧ TOk (Rk Pl d) True sc n t ∧ cntT t ≤ 1000 ∧ LOut H L l (stT (callS Pl d) env t) Q
def spLBs (n d : Nat) : Sp := fun vs H Q _ => ∃ (pd a L : Addr) (l : Int) (Pl : Pls) (sc : List Str) (env : Str → Int) (v : V) (ts : List Thing), vs = [.ref pd, v, .ref a, .ref L] ∧ LIn H pd a L l Pl sc env n d ∧ Rp H v (.tup (encs ts)) ∧ TsOk (Rk Pl d) True sc n ts ∧ cntB ts ≤ 1000 ∧ LOut H L l (stB (callS Pl d) env ts) Q
def spLPs (d : Nat) : Sp := fun vs H Q _ => ∃ (pd L : Addr) (l : Int) (Pl : Pls) (x : Str) (s : Int), vs = [.ref pd, .str x, .int s, .ref L] ∧ LfAt H L l ∧ PlAt H pd Pl ∧ Rk Pl d x ∧ 0 ≤ s ∧ s + 1000 * d ≤ 66136 ∧ LOut H L l (callS Pl d x s) Q
end OG

set_option Elab.async false
set_option linter.all false
set_option maxRecDepth 100000
set_option maxHeartbeats 4000000
namespace OG
open PySem PySem.Spec PyProof.Rows L2
/-! ### plans by their names, in the order of drawing -/
abbrev PL := List (Str × List Thing)
def nms (ps : PL) : List Str := ps.map (·.1)
def plOf : PL → Pls
  | [], _ => none
  | p :: r, x => if p.1 = x then some p.2 else plOf r x
def PsV (H : Hp) : List (Key × V) → PL → Prop
  | kvs, [] => kvs = []
  | kvs, p :: r => ∃ v l, kvs = ((.inr p.1, v) : Key × V) :: l ∧ Rp H v (.tup (encs p.2)) ∧ PsV H l r
theorem PsV.to {H H' : Hp} (m : Imm H H') : ∀ {ps : PL} {kvs : List (Key × V)}, PsV H kvs ps → PsV H' kvs ps
  | [], _, h => h
  | p :: r, _, h => by
    obtain ⟨v, l, e, h1, h2⟩ := h
    exact ⟨v, l, e, h1.to m, PsV.to m h2⟩
theorem PsV.keys {H : Hp} : ∀ {ps : PL} {kvs : List (Key × V)}, PsV H kvs ps → kvs.map (·.1) = (nms ps).map Sum.inr
  | [], _, h => by rw [show _ = [] from h]; rfl
  | p :: r, _, h => by
    obtain ⟨v, l, rfl, h1, h2⟩ := h
    show _ :: l.map (·.1) = _ :: (nms r).map Sum.inr
    rw [PsV.keys h2]
theorem PsV.len {H : Hp} : ∀ {ps : PL} {kvs : List (Key × V)}, PsV H kvs ps → kvs.length = ps.length
  | [], _, h => by rw [show _ = [] from h]; rfl
  | p :: r, _, h => by
    obtain ⟨v, l, rfl, h1, h2⟩ := h
    show l.length + 1 = r.length + 1
    rw [PsV.len h2]
theorem PsV.val {H : Hp} : ∀ {ps : PL} {kvs : List (Key × V)} {x : Str} {ts : List Thing}, PsV H kvs ps → plOf ps x = some ts → ∃ v, valV kvs (.inr x : Key) = some v ∧ Rp H v (.tup (encs ts))
  | [], _, _, _, _, e => by cases e
  | p :: r, _, x, ts, h, e => by
    obtain ⟨v, l, rfl, h1, h2⟩ := h
    have e' : (if p.1 = x then some p.2 else plOf r x) = some ts := e
    by_cases c : p.1 = x
    · rw [if_pos c] at e'
      cases e'
      exact ⟨v, valV_pos (by rw [c]), h1⟩
    · rw [if_neg c] at e'
      obtain ⟨u, e1, e2⟩ := PsV.val h2 e'
      exact ⟨u, by rw [valV_neg (fun z => c (Sum.inr.inj z))]; exact e1, e2⟩
theorem PsV.snoc {H : Hp} {x : Str} {ts : List Thing} {v : V} (hv : Rp H v (.tup (encs ts))) : ∀ {ps : PL} {kvs : List (Key × V)}, PsV H kvs ps → PsV H (kvs ++ [(.inr x, v)]) (ps ++ [(x, ts)])
  | [], _, h => by
    rw [show _ = [] from h]
    exact ⟨v, [], rfl, hv, rfl⟩
  | p :: r, _, h => by
    obtain ⟨u, l, rfl, h1, h2⟩ := h
    exact ⟨u, _, rfl, h1, PsV.snoc hv h2⟩
theorem plOf_mem : ∀ {ps : PL} {x : Str}, x ∈ nms ps → ∃ ts, plOf ps x = some ts ∧ (x, ts) ∈ ps
  | [], x, h => by cases h
  | p :: r, x, h => by
    by_cases c : p.1 = x
    · exact ⟨p.2, if_pos c, by rw [← c]; exact List.mem_cons_self⟩
    · obtain ⟨ts, h1, h2⟩ := plOf_mem (ps := r) ((List.mem_cons.mp (show x ∈ p.1 :: nms r from h)).resolve_left (fun z => c z.symm))
      exact ⟨ts, (if_neg c).trans h1, List.mem_cons_of_mem _ h2⟩
theorem plOf_none : ∀ {ps : PL} {x : Str}, x ∉ nms ps → plOf ps x = none
  | [], _, _ => rfl
  | p :: r, x, h => by
    have h' : x ∉ p.1 :: nms r := h
    exact (if_neg (fun c => h' (by rw [c]; exact List.mem_cons_self))).trans (plOf_none fun z => h' (List.mem_cons_of_mem _ z))
theorem plOf_app : ∀ {ps qs : PL} {x : Str}, plOf (ps ++ qs) x = match plOf ps x with | some ts => some ts | none => plOf qs x
  | [], _, _ => rfl
  | p :: r, qs, x => by
    show (if p.1 = x then some p.2 else plOf (r ++ qs) x) = match (if p.1 = x then some p.2 else plOf r x) with | some ts => some ts | none => plOf qs x
    by_cases c : p.1 = x
    · rw [if_pos c, if_pos c]
    · rw [if_neg c, if_neg c, plOf_app]
theorem plOf_old {ps : PL} {y : Str} {us : List Thing} {x : Str} {ts : List Thing} (h : plOf ps x = some ts) : plOf (ps ++ [(y, us)]) x = some ts := by rw [plOf_app, h]
theorem plOf_new {ps : PL} {x : Str} {ts : List Thing} (h : x ∉ nms ps) : plOf (ps ++ [(x, ts)]) x = some ts := by
  rw [plOf_app, plOf_none h]
  exact if_pos rfl
theorem nms_snoc (ps : PL) (x : Str) (ts : List Thing) : nms (ps ++ [(x, ts)]) = nms ps ++ [x] := by
  unfold nms
  rw [List.map_append]
  rfl
/-- the value of one of them is exchanged -/
theorem PsV.put {H : Hp} {x : Str} {ts ts' : List Thing} {v : V} {ps : PL} (hx : x ∉ nms ps) (hv : Rp H v (.tup (encs ts'))) {kvs : List (Key × V)} (h : PsV H kvs (ps ++ [(x, ts)])) : PsV H (putK kvs (.inr x) v) (ps ++ [(x, ts')]) := by
  have an : (kvs.any fun kv => decide (kv.1 = (.inr x : Key))) = true := by
    have k := h.keys
    rw [nms_snoc, List.map_append] at k
    have m : (.inr x : Key) ∈ kvs.map (·.1) := by
      rw [k]
      exact List.mem_append_right _ List.mem_cons_self
    obtain ⟨p, hp, e⟩ := List.mem_map.mp m
    exact List.any_eq_true.mpr ⟨p, hp, decide_eq_true e⟩
  unfold putK
  rw [if_pos an]
  have go : ∀ {ps : PL} {kvs : List (Key × V)}, x ∉ nms ps → PsV H kvs (ps ++ [(x, ts)]) → PsV H (kvs.map fun kv => if kv.1 = (.inr x : Key) then (kv.1, v) else kv) (ps ++ [(x, ts')]) := fun {ps} => by
    induction ps with
    | nil =>
      intro kvs _ h
      obtain ⟨u, l, rfl, h1, h2⟩ := h
      rw [show l = [] from h2]
      refine ⟨v, [], ?_, hv, rfl⟩
      show [if (.inr x : Key) = .inr x then ((.inr x : Key), v) else _] = _
      rw [if_pos rfl]
    | cons p r ih =>
      intro kvs hn h
      obtain ⟨u, l, rfl, h1, h2⟩ := h
      have hn' : x ∉ p.1 :: nms r := hn
      refine ⟨u, _, ?_, h1, ih (fun z => hn' (List.mem_cons_of_mem _ z)) h2⟩
      rw [List.map_cons, if_neg (fun z => hn' (by rw [← Sum.inr.inj z]; exact List.mem_cons_self))]
  exact go hx h
def PsAt (H : Hp) (pd : Addr) (ps : PL) : Prop := ∃ kvs : List (Key × V), H pd = some (.dK kvs) ∧ PsV H kvs ps
theorem PsAt.pl {H : Hp} {pd : Addr} {ps : PL} (h : PsAt H pd ps) : PlAt H pd (plOf ps) := by
  obtain ⟨kvs, h1, h2⟩ := h
  exact ⟨kvs, .inl h1, fun x ts hx => h2.val hx⟩
theorem PsAt.to {M : Addr → Prop} {H H' : Hp} {pd : Addr} {ps : PL} (h : PsAt H pd ps) (g : Go M H H') (n : ¬ M pd) : PsAt H' pd ps := by
  obtain ⟨kvs, h1, h2⟩ := h
  exact ⟨kvs, g.at h1 n, h2.to g.im⟩
theorem PsAt.same {H H' : Hp} {pd : Addr} {ps : PL} (h : PsAt H pd ps) (s : Same H H') : PsAt H' pd ps := by
  obtain ⟨kvs, h1, h2⟩ := h
  exact ⟨kvs, s _ _ h1, h2.to (Imm.same s)⟩
/-! ### plans that were drawn one behind another -/
inductive PsOk : PL → Prop
  | nil : PsOk []
  | snoc {ps : PL} {x : Str} {ts : List Thing} : PsOk ps → nameB x = true → x ∉ nms ps → ts ≠ [] → TsOk (fun y => y ∈ nms ps) False ["n"] 4 ts → cntB ts ≤ 100 → PsOk (ps ++ [(x, ts)])
theorem rk_mono {Pl : Pls} : ∀ {d : Nat} {x : Str}, Rk Pl d x → Rk Pl (d + 1) x
  | 0, _, h => h.elim
  | d + 1, x, h => by
    obtain ⟨ts, h1, h2, h3, h4⟩ := h
    exact ⟨ts, h1, tsok_mono (fun y hy => rk_mono hy) id ts _ _ h2, h3, h4⟩
theorem rk_le {Pl : Pls} {d e : Nat} {x : Str} (h : d ≤ e) (r : Rk Pl d x) : Rk Pl e x := by
  induction e with
  | zero =>
    have : d = 0 := by omega
    rw [this] at r
    exact r
  | succ e ih =>
    by_cases c : d = e + 1
    · rw [← c]
      exact r
    · exact rk_mono (ih (by omega))
theorem rk_ext {Pl Pl' : Pls} (h : ∀ x ts, Pl x = some ts → Pl' x = some ts) : ∀ {d : Nat} {x : Str}, Rk Pl d x → Rk Pl' d x
  | 0, _, r => r.elim
  | d + 1, x, r => by
    obtain ⟨ts, h1, h2, h3, h4⟩ := r
    exact ⟨ts, h x ts h1, tsok_mono (fun y hy => rk_ext h hy) id ts _ _ h2, h3, h4⟩
theorem way_none {C : Str → Prop} {sc : List Str} {n : Nat} : ∀ {ts : List Thing}, TsOk C False sc n ts → wayOf ts = none
  | [], _ => rfl
  | t :: r, h => by
    cases t with
    | again k w => exact h.1.1.elim
    | step _ => exact way_none (ts := r) h.2
    | loop _ _ _ _ => exact way_none (ts := r) h.2
    | test _ _ _ _ => exact way_none (ts := r) h.2
    | twice _ => exact way_none (ts := r) h.2
    | call _ _ => exact way_none (ts := r) h.2
theorem way_put {k : Int} {w : Str} : ∀ {ts : List Thing} {r : List Thing}, wayOf ts = none → wayOf (ts ++ .again k w :: r) = some (k, w)
  | [], _, _ => rfl
  | t :: q, r, h => by
    cases t with
    | again k w => cases h
    | step _ => exact way_put (ts := q) h
    | loop _ _ _ _ => exact way_put (ts := q) h
    | test _ _ _ _ => exact way_put (ts := q) h
    | twice _ => exact way_put (ts := q) h
    | call _ _ => exact way_put (ts := q) h
theorem psok_rk {ps : PL} (h : PsOk ps) : ∀ x ∈ nms ps, Rk (plOf ps) ps.length x := by
  induction h with
  | nil => intro x hx; cases hx
  | @snoc ps x ts h0 hn hx hne hT hc ih =>
    intro y hy
    rw [nms_snoc] at hy
    rw [List.length_append]
    show Rk _ (ps.length + 1) y
    have old : ∀ z ∈ nms ps, Rk (plOf (ps ++ [(x, ts)])) ps.length z := fun z hz => rk_ext (fun a us e => plOf_old e) (ih z hz)
    rcases List.mem_append.mp hy with hy | hy
    · exact rk_mono (old y hy)
    · rw [List.mem_singleton.mp hy]
      refine ⟨ts, plOf_new hx, tsok_mono old (fun z => z.elim) ts _ _ hT, by omega, fun k w e => ?_⟩
      rw [way_none hT] at e
      cases e
theorem psok_ts {ps : PL} (h : PsOk ps) : ∀ x ts, plOf ps x = some ts → TsOk (Rk (plOf ps) ps.length) True ["n"] 4 ts ∧ cntB ts ≤ 100 := by
  induction h with
  | nil => intro x ts e; cases e
  | @snoc ps x us h0 hn hx hne hT hc ih =>
    intro y ts e
    rw [List.length_append]
    have old : ∀ z, Rk (plOf ps) ps.length z → Rk (plOf (ps ++ [(x, us)])) (ps.length + 1) z := fun z hz => rk_mono (rk_ext (fun a us e => plOf_old e) hz)
    rw [plOf_app] at e
    cases hp : plOf ps y with
    | some vs =>
      rw [hp] at e
      cases e
      obtain ⟨h1, h2⟩ := ih y _ hp
      exact ⟨tsok_mono old id ts _ _ h1, h2⟩
    | none =>
      rw [hp] at e
      have e' : (if x = y then some us else none) = some ts := e
      by_cases c : x = y
      · rw [if_pos c] at e'
        cases e'
        exact ⟨tsok_mono (fun z hz => old z (psok_rk h0 z hz)) (fun z => z.elim) _ _ _ hT, hc⟩
      · rw [if_neg c] at e'
        cases e'
theorem psok_names {ps : PL} (h : PsOk ps) : ∀ x ∈ nms ps, nameB x = true := by
  induction h with
  | nil => intro x hx; cases hx
  | @snoc ps x ts h0 hn hx hne hT hc ih =>
    intro y hy
    rw [nms_snoc] at hy
    rcases List.mem_append.mp hy with hy | hy
    · exact ih y hy
    · rw [List.mem_singleton.mp hy]
      exact hn
theorem psok_nd {ps : PL} (h : PsOk ps) : (nms ps).Nodup := by
  induction h with
  | nil => exact List.nodup_nil
  | @snoc ps x ts h0 hn hx hne hT hc ih =>
    rw [nms_snoc]
    exact nd_snoc ih hx
theorem psok_all {ps : PL} (h : PsOk ps) : ∀ p ∈ ps, nameB p.1 = true ∧ TsOk CT True ["n"] 4 p.2 ∧ cntB p.2 ≤ 101 := by
  induction h with
  | nil => intro p hp; cases hp
  | @snoc ps x ts h0 hn hx hne hT hc ih =>
    intro p hp
    rcases List.mem_append.mp hp with hp | hp
    · exact ih p hp
    · rw [List.mem_singleton.mp hp]
      exact ⟨hn, tsok_mono (fun _ _ => trivial) (fun z => z.elim) ts _ _ hT, by show cntB ts ≤ 101; omega⟩
/-- the last one, taken apart -/
theorem psok_last {ps : PL} (h : PsOk ps) (ne : ps ≠ []) : ∃ qs x ts, ps = qs ++ [(x, ts)] ∧ PsOk qs ∧ nameB x = true ∧ x ∉ nms qs ∧ ts ≠ [] ∧ TsOk (fun y => y ∈ nms qs) False ["n"] 4 ts ∧ cntB ts ≤ 100 := by
  cases h with
  | nil => exact absurd rfl ne
  | @snoc qs x ts h0 hn hx hne hT hc => exact ⟨qs, x, ts, rfl, h0, hn, hx, hne, hT, hc⟩
/-- an again put into the last plan -/
theorem with_rk {qs : PL} {x : Str} {ts : List Thing} {i : Nat} {k : Int} {w : Str} (h0 : PsOk qs) (hx : x ∉ nms qs) (hT : TsOk (fun y => y ∈ nms qs) False ["n"] 4 ts) (hc : cntB ts ≤ 100) (ha : AgOk k w) (hl : w = "less" → k = 1) :
    Rk (plOf (qs ++ [(x, ts.take i ++ .again k w :: ts.drop i)])) (qs.length + 1) x := by
  have old : ∀ z ∈ nms qs, Rk (plOf (qs ++ [(x, ts.take i ++ .again k w :: ts.drop i)])) qs.length z := fun z hz => rk_ext (fun a us e => plOf_old e) (psok_rk h0 z hz)
  have hm := tsok_mono (A' := True) old (fun z => z.elim) ts _ _ hT
  refine ⟨_, plOf_new hx, ?_, ?_, fun k' w' e => ?_⟩
  · rw [tsok_iff] at hm ⊢
    intro t ht
    rcases List.mem_append.mp ht with h1 | h1
    · exact hm t (List.mem_of_mem_take h1)
    · rcases List.mem_cons.mp h1 with rfl | h1
      · exact ⟨trivial, ha⟩
      · exact hm t (List.mem_of_mem_drop h1)
  · have e : cntB (ts.take i ++ .again k w :: ts.drop i) = cntB ts + 1 := by
      rw [cntB_append]
      show cntB (ts.take i) + (1 + cntB (ts.drop i)) = _
      have := cntB_append (ts.take i) (ts.drop i)
      rw [List.take_append_drop] at this
      omega
    omega
  · have hn : wayOf (ts.take i) = none := by
      refine way_none (C := fun y => y ∈ nms qs) (sc := ["n"]) (n := 4) ?_
      rw [tsok_iff] at hT ⊢
      exact fun t ht => hT t (List.mem_of_mem_take ht)
    rw [way_put hn] at e
    cases e
    exact ⟨ha.1, ha.2.1, hl⟩
theorem with_all {qs : PL} {x : Str} {ts : List Thing} {i : Nat} {k : Int} {w : Str} (h0 : PsOk qs) (hn : nameB x = true) (hT : TsOk (fun y => y ∈ nms qs) False ["n"] 4 ts) (hc : cntB ts ≤ 100) (ha : AgOk k w) :
    ∀ p ∈ qs ++ [(x, ts.take i ++ .again k w :: ts.drop i)], nameB p.1 = true ∧ TsOk CT True ["n"] 4 p.2 ∧ cntB p.2 ≤ 101 := fun p hp => by
  rcases List.mem_append.mp hp with hp | hp
  · exact psok_all h0 p hp
  · rw [List.mem_singleton.mp hp]
    have hm : TsOk CT True ["n"] 4 ts := tsok_mono (fun _ _ => trivial) (fun z => z.elim) ts _ _ hT
    refine ⟨hn, ?_, ?_⟩
    · show TsOk CT True ["n"] 4 (ts.take i ++ .again k w :: ts.drop i)
      rw [tsok_iff] at hm ⊢
      intro t ht
      rcases List.mem_append.mp ht with h1 | h1
      · exact hm t (List.mem_of_mem_take h1)
      · rcases List.mem_cons.mp h1 with rfl | h1
        · exact ⟨trivial, ha⟩
        · exact hm t (List.mem_of_mem_drop h1)
    · show cntB (ts.take i ++ .again k w :: ts.drop i) ≤ 101
      rw [cntB_append]
      show cntB (ts.take i) + (1 + cntB (ts.drop i)) ≤ _
      have := cntB_append (ts.take i) (ts.drop i)
      rw [List.take_append_drop] at this
      omega
end OG

set_option Elab.async false
set_option linter.all false
set_option maxRecDepth 100000
set_option maxHeartbeats 4000000
namespace OG
open PySem PySem.Spec PyProof.Rows L2
/-! ### a comprehension over a list, its element a call that leaves all as it was -/
theorem lc_list_map {K : PySem.W.Frag} {a : Addr} {xs : List V} {g : TG} {te : TE} {vs : List Nat} {σ : L2.St} {H1 : Hp} {D : Addr} {Qd : Hp → Prop} (ys : List V) (i0 : Nat) (hg : g = gName i0) (hw : ∀ v, wipe ((wipe σ vs).set i0 v) vs = wipe σ vs)
    (hlen : ys.length = xs.length) (hz : xs.length < 100000) (hS : H1 a = some (.lst xs)) (hD : H1 D = none)
    (he : ∀ (i : Nat) (x y : V) (H2 : Hp) (Q : VK), xs[i]? = some x → ys[i]? = some y → Same H1 H2 → (∀ H3, Same H2 H3 → Q y H3) → te ((wipe σ vs).set i0 (some x)) H2 Q)
    (hd : ∀ H', Same H1 H' → H' D = some (.lst ys) → Qd H') :
    ∃ W : Nat → Nat → Hp → Prop, (∃ m, W 0 m (upd H1 D (.lst []))) ∧ ∀ i m H, W i m H →
      ((Itl K a).stop i H ∧ Qd H) ∨ ((Itl K a).go i H ∧ ∃ Nx : Hp → Prop, (∀ H', Nx H' → ∃ m', m' < m ∧ W (i + 1) m' H') ∧ ∀ x H', (Itl K a).yld i H x H' → g x (wipe σ vs) H' fun σ2 H2 => wipe σ2 vs = wipe σ vs ∧ tYes σ2 H2 fun b H3 =>
        if b = true then te σ2 H3 fun y H4 => ∃ acc, H4 D = some (.lst acc) ∧ acc.length < sizeLine ∧ Nx (upd H4 D (.lst (acc ++ [y]))) else Nx H3) := by
  subst hg
  refine lc_list (xs := xs) (fun i H' => Same H1 H' ∧ H' D = some (.lst (ys.take i))) ⟨same_new hD, upd_same⟩ (fun i H' hi hP => SqL.of (hP.1 _ _ hS)) (fun i x H' hx hP => ?_) (fun H' hP => ?_)
  · obtain ⟨sm, hl⟩ := hP
    have hi : i < ys.length := by
      rw [hlen]
      obtain ⟨h, _⟩ := List.getElem?_eq_some_iff.mp hx
      exact h
    refine ⟨hw _, yes_go ?_⟩
    refine he i x ys[i] H' _ hx (List.getElem?_eq_getElem hi) sm fun H3 s3 => ?_
    refine ⟨ys.take i, s3 _ _ hl, ?_, Same.upd_new (sm.trans s3) hD, ?_⟩
    · rw [List.length_take]
      exact szl (by omega)
    · rw [upd_same, List.take_add_one, List.getElem?_eq_getElem hi]
      rfl
  · obtain ⟨sm, hl⟩ := hP
    rw [← hlen, List.take_length] at hl
    exact hd H' sm hl
/-- two lists of like flat values -/
theorem eq2_flats {H : Hp} {p q : Addr} {vs : List V} (n : Nat) (hp : H p = some (.lst vs)) (hq : H q = some (.lst vs)) (hf : vs.all flatV = true) (hl : vs.length < 100000) : Eq2 H (n + 1) (.ref p) (.ref q) :=
  .inr ⟨p, q, vs, vs, rfl, rfl, .inr ⟨hp, hq⟩, rfl, hl, fun k x y hx hy => by
    have e : x = y := Option.some.inj (hx.symm.trans hy)
    subst e
    exact Eq2.flat (List.all_eq_true.mp hf x (List.mem_of_getElem? hx)) n⟩
theorem atI_get {α : Type} {xs : List α} {i : Nat} {x : α} (h : xs[i]? = some x) : atI xs ((i : Nat) : Int) = some x := atI_nat h
/-! ### rows of an order -/
def rowL (xs : List Int) (x : Int) : List V := xs.map fun y => V.int (sgn (x - y))
theorem rowL_len (xs : List Int) (x : Int) : (rowL xs x).length = xs.length := List.length_map _
theorem rowL_get {xs : List Int} {x y : Int} {i : Nat} (h : xs[i]? = some y) : (rowL xs x)[i]? = some (.int (sgn (x - y))) := by
  unfold rowL
  rw [List.getElem?_map, h]
  rfl
theorem rowL_flat (xs : List Int) (x : Int) : (rowL xs x).all flatV = true := by
  rw [List.all_eq_true]
  intro v hv
  obtain ⟨y, _, rfl⟩ := List.mem_map.mp hv
  rfl
theorem rpl_gr {H : Hp} {vs : List V} {gs : List Gr} (h : RpL H vs (gs.map encG)) {i : Nat} {x : V} (hx : vs[i]? = some x) : ∃ g, gs[i]? = some g ∧ Rp H x (encG g) := by
  obtain ⟨d, hd, hr⟩ := h.get hx
  rw [List.getElem?_map] at hd
  cases ht : gs[i]? with
  | none => rw [ht] at hd; cases hd
  | some t =>
    rw [ht] at hd
    have : encG t = d := Option.some.inj hd
    exact ⟨t, rfl, this ▸ hr⟩
theorem gvals_get {gs : List Gr} {i : Nat} {g : Gr} (h : gs[i]? = some g) : (gs.map gval)[i]? = some (gval g) := by
  rw [List.getElem?_map, h]
  rfl
/-- the rows of marks made so far -/
def Marks (H : Hp) (M : Addr) (xs : List Int) (rs : List Addr) : Prop := H M = some (.lst (rs.map V.ref)) ∧ ∀ (j : Nat) (r : Addr), rs[j]? = some r → ∃ x, xs[j]? = some x ∧ H r = some (.lst (rowL xs x))
theorem Marks.same {H H' : Hp} {M : Addr} {xs : List Int} {rs : List Addr} (h : Marks H M xs rs) (s : Same H H') : Marks H' M xs rs :=
  ⟨s _ _ h.1, fun j r hj => by
    obtain ⟨x, h1, h2⟩ := h.2 j r hj
    exact ⟨x, h1, s _ _ h2⟩⟩
end OG

set_option Elab.async false
set_option linter.all false
set_option maxRecDepth 100000
set_option maxHeartbeats 4000000
namespace OG
open PySem PySem.Spec PyProof.Rows L2
/-! ### sorted(d), d a dict whose keys are pairs of ints -/
def keyAt (H : Hp) (b : Addr) : Int × Int := match H b with
  | some (.tup [.int i, .int j]) => (i, j)
  | _ => (0, 0)
def addrOf : Value → Addr
  | .ref a => a
  | _ => 0
theorem keyAt_of {H : Hp} {b : Addr} {i j : Int} (h : H b = some (.tup [.int i, .int j])) : keyAt H b = (i, j) := by
  unfold keyAt
  rw [h]
abbrev pairK (p : Int × Int) : List Key := [Sum.inl p.1, Sum.inl p.2]
def rSortDT : List V → Hp → VK → Prop := fun xs H Q => ∃ (a : Addr) (kvs : List (List Key × V)) (ks : List (Int × Int)), xs = [.ref a] ∧ Rd H a (.dT kvs) ∧ kvs.map (·.1) = ks.map pairK ∧
  ∀ (bs : List Addr) (p : Addr), (bs.map (keyAt H)).Perm ks → (∀ b ∈ bs, H b = some (.tup [.int (keyAt H b).1, .int (keyAt H b).2])) → SrtO.Srtd (fun x y => SrtO.lexB (keyAt H x) (keyAt H y)) bs → H p = none → Q (.ref p) (upd H p (.lst (bs.map V.ref)))
theorem keys_paired {H : Hp} : ∀ {kvs : List (List Key × V)} {bs : List Addr} {ks : List (Int × Int)}, IsKeys H kvs bs → kvs.map (·.1) = ks.map pairK → bs.map (keyAt H) = ks ∧ ∀ b ∈ bs, H b = some (.tup [.int (keyAt H b).1, .int (keyAt H b).2])
  | [], [], [], _, _ => ⟨rfl, fun _ h => by cases h⟩
  | [], [], k :: ks, _, e => by cases e
  | kv :: kvs, b :: bs, [], _, e => by cases e
  | kv :: kvs, b :: bs, k :: ks, h, e => by
    cases h with
    | cons h t =>
      have e1 : kv.1 = pairK k := (List.cons.inj e).1
      have e2 : kvs.map (·.1) = ks.map pairK := (List.cons.inj e).2
      obtain ⟨i1, i2⟩ := keys_paired t e2
      rw [e1] at h
      have hb : H b = some (.tup [.int k.1, .int k.2]) := h
      have hk := keyAt_of hb
      refine ⟨by rw [List.map_cons, i1, hk], fun c hc => ?_⟩
      rcases List.mem_cons.mp hc with rfl | hc
      · rw [hk]
        exact hb
      · exact i2 c hc
/-- what is gathered of a dict's entries: the places of its keys, in their order -/
theorem keys_gathered {P : Program} {w : World} {kts : List (List Key × Addr × Value)} {ents : Array DictEntry} (hE : ents.toList = kts.map (entryOfKey (tupleKind (mixKind P w)))) {got : Array Value}
    (hI : ItemsOf (fun i v => ∃ en : DictEntry, ents[i]? = some en ∧ v = en.key) got ents.size) : got.toList = (kts.map fun t => t.2.1).map Value.ref := by
  have hk : ents.toList.map (·.key) = (kts.map fun t => t.2.1).map Value.ref := by
    rw [hE, List.map_map, List.map_map]
    rfl
  rw [← hk]
  refine List.ext_getElem? fun j => ?_
  by_cases hlt : j < got.size
  · obtain ⟨en, k1, k2⟩ := hI.2 j got[j] (by simp [hlt])
    have k3 : ents.toList[j]? = some en := by simpa using k1
    rw [List.getElem?_map, k3]
    have k4 : got.toList[j]? = some got[j] := by simp [hlt]
    rw [k4, k2]
    rfl
  · have k1 : got.toList.length ≤ j := by simpa using hlt
    have k2 : (ents.toList.map (·.key)).length ≤ j := by
      rw [List.length_map, Array.length_toList, ← hI.1]
      simpa using hlt
    rw [List.getElem?_eq_none k1, List.getElem?_eq_none k2]
/-- a list of the values vs at its end, a new one behind all -/
abbrev withList (h : Heap) (vs : List Value) : Heap := h.push (seqObj "list" vs.toArray 0)
theorem call_sortedDT {X : Cx} (calm : X.calm = true) : CallR X (.builtin "sorted") rSortDT := by
  intro pins sh st H args vals Qv inv rel ask
  obtain ⟨dct, table, kl, rfl, held, keysEq, wish⟩ := ask
  obtain ⟨arg, rfl, rarg⟩ := rel.one
  cases rarg
  obtain ⟨small, notSys, kts, paired, obj, ents, nx, at0, exact0, data0, entEq, _⟩ := (show ObjOk X.prog X.w H sh.heap dct (.dT table) from held.ok inv.hok)
  have sizeE : ents.size = kts.length := size_of_entries entEq
  have sizeT : table.length = kts.length := Paired.length paired
  obtain ⟨back, tupAt⟩ := keys_paired (isKeys_of paired) keysEq
  refine Calls.call_function_entry kind_sorted plain_sorted entry_sorted (args_sorted1 _) ?_
  unfold Builtin.«sorted»
  refine wpAny_bind (m := checkCount "sorted" 1 1 _) (wpAny_pure (wpAny_bind ?_))
  refine PySem.W.kdu_collect (A := X.A.in1) (kdl_raw notSys exact0 data0) (inv.ok.hd calm) at0 (by omega) fun hp tok got keep items => ?_
  have gotEq := keys_gathered entEq items
  have inv1 : Inv X pins st H { sh with heap := hp, toks := tok } := inv.kept keep
  have fits : got.toList.length ≤ sizeLine := by
    rw [gotEq, List.length_map, List.length_map]
    omega
  refine wpAny_bind (wpAny_newList (items := got.toList) ?_ fits)
  have newAt : (withList hp got.toList).get? hp.objs.size = some (seqObj "list" got.toList.toArray 0) := Heap.get?_push_size _ rfl
  have pairs : ∀ v ∈ got.toList, Srt.IsPair (withList hp got.toList) v (keyAt H (addrOf v)).1 (keyAt H (addrOf v)).2 := fun v hv => by
    rw [gotEq] at hv
    obtain ⟨b, hb, rfl⟩ := List.mem_map.mp hv
    obtain ⟨_, its, both, ob, o1, o2, c, o3⟩ := inv1.hok _ _ (tupAt b hb)
    obtain ⟨i1, i2, rfl, e1, e2⟩ := vals2 both
    obtain ⟨k1, rfl⟩ := e1
    obtain ⟨k2, rfl⟩ := e2
    exact ⟨b, ob, k1, k2, c, rfl, Heap.get?_push_of_some _ o1, o2, o3⟩
  show wpAny _ _ _ _ _ { sh with heap := withList hp got.toList, toks := tok }
  have sortable : 2 ≤ got.toList.length → SrtO.SortableO X.prog X.w X.A.in1.in1 { sh with heap := withList hp got.toList, toks := tok } hp.objs.size got.toList fun v u => SrtO.lexB (keyAt H (addrOf v)) (keyAt H (addrOf u)) := fun two =>
    SrtO.pairs_sortableO (k := fun v => keyAt H (addrOf v)) (by omega) pairs fun o same => by
      have hs : some o = some (seqObj "list" got.toList.toArray 0) := same.symm.trans newAt
      cases hs
      exact fun c => absurd (Value.type.inj c) (by decide)
  refine wpAny_bind (wpAny_holding (wpAny_call_entry slot_list_sort ⟨_, newAt, rfl⟩ entry_list_sort
    (SrtO.list_sort_ord (s := { sh with heap := withList hp got.toList, toks := tok }) (SrtO.swo_lex fun v => keyAt H (addrOf v)) newAt fits sortable fun out up stb => ⟨_, rfl, ?_⟩) (args_list_sort _)))
  obtain ⟨n', sortedAt⟩ := sortedHeap_at (vs := got.toList) (out := out.toArray) newAt
  have refs : ∀ v ∈ out, Value.ref (addrOf v) = v := fun v hv => by
    have hm := stb.perm.mem_iff.mp hv
    rw [gotEq] at hm
    obtain ⟨b, _, rfl⟩ := List.mem_map.mp hm
    rfl
  have outEq : (out.map addrOf).map Value.ref = out := by
    rw [List.map_map]
    exact (List.map_congr_left refs).trans (List.map_id _)
  have perm : (out.map addrOf).Perm (kts.map fun t => t.2.1) := by
    have p1 := stb.perm.map addrOf
    rw [gotEq, List.map_map] at p1
    exact p1.trans (List.Perm.of_eq (List.map_id _))
  have rels : Vals ((out.map addrOf).map V.ref) out := by
    have r1 := vals_refs (out.map addrOf)
    rw [outEq] at r1
    exact r1
  have fits2 : ((out.map addrOf).map V.ref).length ≤ sizeLine := by
    rw [List.length_map, List.length_map, stb.perm.length_eq]
    exact fits
  have laid : Inv X pins st (upd H hp.objs.size (.lst ((out.map addrOf).map V.ref))) { sh with heap := sortedHeap (withList hp got.toList) hp.objs.size got.toList out.toArray, toks := tok } :=
    inv1.laid (t' := tok) (fun b u e => by
      have before := Heap.lt_size e
      rw [sortedHeap_old (Nat.ne_of_lt before) (by rw [size_push']; exact Nat.lt_succ_of_lt before)]
      exact Heap.get?_push_of_some _ e) (Nat.le_refl _) ⟨fits2, out, n', rels, sortedAt⟩
  refine wpAny_pure ⟨_, rfl, .ref hp.objs.size, _, laid, rfl, wish (out.map addrOf) _ ?_ (fun b hb => tupAt b (perm.mem_iff.mp hb)) (List.pairwise_map.mpr up) (inv1.hok.fresh (Nat.le_refl _))⟩
  have p2 := perm.map (keyAt H)
  rw [back] at p2
  exact p2
end OG

set_option Elab.async false
set_option linter.all false
set_option maxRecDepth 100000
set_option maxHeartbeats 4000000
namespace OG
open PySem PySem.Spec PyProof.Rows L2
/-! ### drawing from many sides -/
def spTakeW : Sp := fun vs H Q _ => ∃ (d L : Addr) (k : Int), vs = [.ref d, .int k] ∧ Dr H d L ∧ 1 ≤ k ∧ k < 2 ^ 200 ∧
  ∀ (g : Int) (H' : Hp), 0 ≤ g → g < k → Dr H' d L → But d H H' → Q (.int g) H'
theorem take_of_wide : ∀ vs H Q E, spTake vs H Q E → spTakeW vs H Q E := fun vs H Q E h => by
  obtain ⟨d, L, k, h1, h2, h3, h4, q⟩ := h
  exact ⟨d, L, k, h1, h2, h3, by omega, q⟩
/-! ### terms and rows -/
abbrev Term := (Int × Int) × (Int × Int)
def encP (p : Int × Int) : D := .tup [.int p.1, .int p.2]
def encT (t : Term) : D := .tup [encP t.1, encP t.2]
abbrev Row := Int × List Term
/-- what a drawn term is -/
structure TermOk (top deep wide : Int) (t : Term) : Prop where
  p0 : 0 ≤ t.1.1
  p1 : t.1.1 ≤ top
  f0 : 0 ≤ t.1.2
  f1 : t.1.2 ≤ deep
  nz : t.2.1 ≠ 0
  o1 : t.2.1.natAbs ≤ wide.toNat
  u0 : 1 ≤ t.2.2
  u1 : t.2.2 ≤ 2
def Falls (ts : List Term) : Prop := ts.Pairwise fun x y => SrtO.lexB y.1 x.1 = true
/-- at l stands a list of these terms -/
def TermsAt (H : Hp) (l : Addr) (ts : List Term) : Prop := ∃ us, H l = some (.lst us) ∧ RpL H us (ts.map encT)
theorem TermsAt.same {H H' : Hp} {l : Addr} {ts : List Term} (h : TermsAt H l ts) (s : Same H H') : TermsAt H' l ts := by
  obtain ⟨us, h1, h2⟩ := h
  exact ⟨us, s _ _ h1, h2.to (Imm.same s)⟩
theorem TermsAt.go {M : Addr → Prop} {H H' : Hp} {l : Addr} {ts : List Term} (h : TermsAt H l ts) (g : Go M H H') (n : ¬ M l) : TermsAt H' l ts := by
  obtain ⟨us, h1, h2⟩ := h
  exact ⟨us, g.at h1 n, h2.to g.im⟩
theorem TermsAt.upd {H : Hp} {l p : Addr} {ts : List Term} {o : HO} {xs : List V} (h : TermsAt H l ts) (n : l ≠ p) (hp : H p = some (.lst xs)) : TermsAt (upd H p o) l ts := by
  obtain ⟨us, h1, h2⟩ := h
  refine ⟨us, ?_, h2.to ((Imm.refl H).upd fun ys e => by rw [hp] at e; cases e)⟩
  rw [upd_ne n]
  exact h1
def RowAt (H : Hp) (u : V) (r : Row) (l : Addr) : Prop := ∃ a, u = .ref a ∧ H a = some (.tup [.int r.1, .ref l]) ∧ TermsAt H l r.2
theorem RowAt.same {H H' : Hp} {u : V} {r : Row} {l : Addr} (h : RowAt H u r l) (s : Same H H') : RowAt H' u r l := by
  obtain ⟨a, h1, h2, h3⟩ := h
  exact ⟨a, h1, s _ _ h2, h3.same s⟩
theorem RowAt.go {M : Addr → Prop} {H H' : Hp} {u : V} {r : Row} {l : Addr} (h : RowAt H u r l) (g : Go M H H') (n : ¬ M l) : RowAt H' u r l := by
  obtain ⟨a, h1, h2, h3⟩ := h
  exact ⟨a, h1, g.im _ _ h2, h3.go g n⟩
theorem RowAt.upd {H : Hp} {u : V} {r : Row} {l p : Addr} {o : HO} {xs : List V} (h : RowAt H u r l) (n : l ≠ p) (hp : H p = some (.lst xs)) : RowAt (upd H p o) u r l := by
  obtain ⟨a, h1, h2, h3⟩ := h
  refine ⟨a, h1, ?_, h3.upd n hp⟩
  have : a ≠ p := ne_of h2 hp (fun z => by cases z)
  rw [upd_ne this]
  exact h2
inductive RowsAt (H : Hp) : List V → List Row → List Addr → Prop where
  | nil : RowsAt H [] [] []
  | cons {u : V} {r : Row} {l : Addr} {us : List V} {rs : List Row} {ls : List Addr} (h : RowAt H u r l) (t : RowsAt H us rs ls) : RowsAt H (u :: us) (r :: rs) (l :: ls)
theorem RowsAt.same {H H' : Hp} (s : Same H H') {us : List V} {rs : List Row} {ls : List Addr} (h : RowsAt H us rs ls) : RowsAt H' us rs ls := by
  induction h with
  | nil => exact .nil
  | cons h t ih => exact .cons (h.same s) ih
theorem RowsAt.go {M : Addr → Prop} {H H' : Hp} (g : Go M H H') {us : List V} {rs : List Row} {ls : List Addr} (h : RowsAt H us rs ls) (n : ∀ l ∈ ls, ¬ M l) : RowsAt H' us rs ls := by
  induction h with
  | nil => exact .nil
  | cons h t ih => exact .cons (h.go g (n _ List.mem_cons_self)) (ih fun l hl => n l (List.mem_cons_of_mem _ hl))
theorem RowsAt.upd {H : Hp} {p : Addr} {o : HO} {xs : List V} (hp : H p = some (.lst xs)) {us : List V} {rs : List Row} {ls : List Addr} (h : RowsAt H us rs ls) (n : ∀ l ∈ ls, l ≠ p) : RowsAt (upd H p o) us rs ls := by
  induction h with
  | nil => exact .nil
  | cons h t ih => exact .cons (h.upd (n _ List.mem_cons_self) hp) (ih fun l hl => n l (List.mem_cons_of_mem _ hl))
theorem RowsAt.append {H : Hp} {us us2 : List V} {rs rs2 : List Row} {ls ls2 : List Addr} (h : RowsAt H us rs ls) (k : RowsAt H us2 rs2 ls2) : RowsAt H (us ++ us2) (rs ++ rs2) (ls ++ ls2) := by
  induction h with
  | nil => exact k
  | cons h t ih => exact .cons h ih
theorem RowsAt.len {H : Hp} {us : List V} {rs : List Row} {ls : List Addr} (h : RowsAt H us rs ls) : us.length = rs.length ∧ ls.length = rs.length := by
  induction h with
  | nil => exact ⟨rfl, rfl⟩
  | cons h t ih => exact ⟨by rw [List.length_cons, List.length_cons, ih.1], by rw [List.length_cons, List.length_cons, ih.2]⟩
theorem RowsAt.get {H : Hp} : ∀ {us : List V} {rs : List Row} {ls : List Addr} {i : Nat} {u : V}, RowsAt H us rs ls → us[i]? = some u → ∃ r l, rs[i]? = some r ∧ ls[i]? = some l ∧ RowAt H u r l
  | _, _, _, i, u, .nil, hu => by simp at hu
  | _, _, _, 0, u, .cons h t, hu => by
    have e := Option.some.inj hu
    subst e
    exact ⟨_, _, rfl, rfl, h⟩
  | _, _, _, i + 1, u, .cons h t, hu => RowsAt.get (i := i) t hu
/-- at S stand these sums -/
def SumsAt (H : Hp) (S : Addr) (rs : List Row) (ls : List Addr) : Prop := ∃ us, H S = some (.lst us) ∧ RowsAt H us rs ls
theorem SumsAt.same {H H' : Hp} {S : Addr} {rs : List Row} {ls : List Addr} (h : SumsAt H S rs ls) (s : Same H H') : SumsAt H' S rs ls := by
  obtain ⟨us, h1, h2⟩ := h
  exact ⟨us, s _ _ h1, h2.same s⟩
theorem SumsAt.go {M : Addr → Prop} {H H' : Hp} {S : Addr} {rs : List Row} {ls : List Addr} (h : SumsAt H S rs ls) (g : Go M H H') (n : ¬ M S) (m : ∀ l ∈ ls, ¬ M l) : SumsAt H' S rs ls := by
  obtain ⟨us, h1, h2⟩ := h
  exact ⟨us, g.at h1 n, h2.go g m⟩
/-! ### the dict of terms that are drawn -/
theorem putK_keys {κ : Type} [DecidableEq κ] {kvs : List (κ × V)} {k : κ} {x : V} (v : V) (h : valV kvs k = some x) : (putK kvs k v).map (·.1) = kvs.map (·.1) := by
  have ha := valV_any k kvs
  rw [h] at ha
  have ha' : (kvs.any fun kv => decide (kv.1 = k)) = true := ha
  unfold putK
  rw [if_pos ha', List.map_map]
  refine List.map_congr_left fun kv _ => ?_
  show (if kv.1 = k then (kv.1, v) else kv).1 = kv.1
  split <;> rfl
theorem pairK_inj {p q : Int × Int} (h : pairK p = pairK q) : p = q := by
  have h1 := (List.cons.inj h).1
  have h2 := (List.cons.inj (List.cons.inj h).2).1
  obtain ⟨a, b⟩ := p
  obtain ⟨c, d⟩ := q
  have e1 : a = c := Sum.inl.inj h1
  have e2 : b = d := Sum.inl.inj h2
  rw [e1, e2]
def TDict (H : Hp) (F : Addr) (P : Int × Int → Int × Int → Prop) (n : Nat) : Prop := ∃ (kvs : List (List Key × V)) (ks : List (Int × Int)), H F = some (.dT kvs) ∧ kvs.map (·.1) = ks.map pairK ∧ ks.Nodup ∧ ks.length ≤ n ∧
  ∀ p ∈ ks, ∃ v o, valV kvs (pairK p) = some v ∧ Rp H v (encP o) ∧ P p o
theorem TDict.to {H H' : Hp} {F : Addr} {P : Int × Int → Int × Int → Prop} {n : Nat} (h : TDict H F P n) (e : H' F = H F) (i : Imm H H') : TDict H' F P n := by
  obtain ⟨kvs, ks, h1, h2, h3, h4, h5⟩ := h
  refine ⟨kvs, ks, e.trans h1, h2, h3, h4, fun p hp => ?_⟩
  obtain ⟨v, o, a, b, c⟩ := h5 p hp
  exact ⟨v, o, a, b.to i, c⟩
theorem TDict.put {H : Hp} {F : Addr} {P : Int × Int → Int × Int → Prop} {n : Nat} (h : TDict H F P n) {kvs : List (List Key × V)} (hF : H F = some (.dT kvs)) {p o : Int × Int} {v : V} (hv : Rp H v (encP o)) (hP : P p o) :
    TDict (upd H F (.dT (putK kvs (pairK p) v))) F P (n + 1) := by
  obtain ⟨kvs', ks, h1, h2, h3, h4, h5⟩ := h
  have e : kvs' = kvs := by
    rw [hF] at h1
    exact (HO.dT.inj (Option.some.inj h1)).symm
  subst e
  have i : Imm H (upd H F (.dT (putK kvs' (pairK p) v))) := (Imm.refl H).upd fun xs z => by rw [hF] at z; cases z
  by_cases hm : p ∈ ks
  · obtain ⟨v0, o0, a0, _, _⟩ := h5 p hm
    refine ⟨_, ks, upd_same, (putK_keys v a0).trans h2, h3, by omega, fun q hq => ?_⟩
    rw [valV_put]
    by_cases hqp : q = p
    · subst hqp
      exact ⟨v, o, if_pos rfl, hv.to i, hP⟩
    · obtain ⟨v1, o1, a1, b1, c1⟩ := h5 q hq
      exact ⟨v1, o1, by rw [if_neg fun z => hqp (pairK_inj z)]; exact a1, b1.to i, c1⟩
  · have hn : valV kvs' (pairK p) = none := by
      cases hz : valV kvs' (pairK p) with
      | none => rfl
      | some x =>
        have hx := valV_any (pairK p) kvs'
        rw [hz] at hx
        obtain ⟨kv, hkv, hd⟩ := List.any_eq_true.mp hx
        have : kv.1 ∈ kvs'.map (·.1) := List.mem_map.mpr ⟨kv, hkv, rfl⟩
        rw [h2, of_decide_eq_true hd] at this
        obtain ⟨q, hq, e⟩ := List.mem_map.mp this
        rw [pairK_inj e] at hq
        exact absurd hq hm
    refine ⟨_, ks ++ [p], upd_same, ?_, ?_, by rw [List.length_append]; show ks.length + 1 ≤ n + 1; omega, fun q hq => ?_⟩
    · rw [putK_new v hn, List.map_append, List.map_append, h2]
      rfl
    · rw [List.nodup_append]
      refine ⟨h3, by simp, fun a ha b hb => ?_⟩
      rw [List.mem_singleton.mp hb]
      exact fun e => hm (e ▸ ha)
    · rw [valV_put]
      rcases List.mem_append.mp hq with hq | hq
      · have hqp : q ≠ p := fun e => hm (e ▸ hq)
        obtain ⟨v1, o1, a1, b1, c1⟩ := h5 q hq
        exact ⟨v1, o1, by rw [if_neg fun z => hqp (pairK_inj z)]; exact a1, b1.to i, c1⟩
      · rw [List.mem_singleton.mp hq]
        exact ⟨v, o, if_pos rfl, hv.to i, hP⟩
/-! ### promises -/
def spGcd : Sp := fun vs H Q _ => ∃ a b : Int, vs = [.int a, .int b] ∧ Q (.int (Int.gcd a b : Nat)) H
def lowOf (o u : Int) : Int × Int := (o / (Int.gcd o u : Nat), u / (Int.gcd o u : Nat))
def spLowest : Sp := fun vs H Q _ => ∃ o u : Int, vs = [.int o, .int u] ∧ 1 ≤ u ∧ u.natAbs < 2 ^ 8000 ∧ ∀ v H', Same H H' → Rp H' v (encP (lowOf o u)) → Q v H'
def spTerms : Sp := fun vs H Q _ => ∃ (d L : Addr) (top deep wide : Int), vs = [.ref d, .int top, .int deep, .int wide] ∧ Dr H d L ∧ 0 ≤ top ∧ top ≤ 9 ∧ 0 ≤ deep ∧ deep ≤ 9 ∧ 1 ≤ wide ∧ wide < 2 ^ 100 ∧
  ∀ (l : Addr) (ts : List Term) (H' : Hp), H l = none → l ≠ d → TermsAt H' l ts → (∀ t ∈ ts, TermOk top deep wide t) → ts.length ≤ 3 → Falls ts → Dr H' d L → Go (· = d) H H' → Q (.ref l) H'
/-- the rows of drawn sums -/
structure RowsOk (top deep wide : Int) (rs : List Row) : Prop where
  n0 : rs ≠ []
  n4 : rs.length ≤ 4
  terms : ∀ r ∈ rs, (∀ t ∈ r.2, TermOk top deep wide t) ∧ r.2.length ≤ 3 ∧ Falls r.2
  first : (rs.head?.map (·.1)) = some 0
  rises : (rs.map (·.1)).Pairwise (· < ·)
  since : ∀ r ∈ rs, 0 ≤ r.1 ∧ r.1 ≤ 1000
def spSums : Sp := fun vs H Q _ => ∃ (d L : Addr) (top deep wide : Int), vs = [.ref d, .int top, .int deep, .int wide] ∧ Dr H d L ∧ 0 ≤ top ∧ top ≤ 9 ∧ 0 ≤ deep ∧ deep ≤ 9 ∧ 1 ≤ wide ∧ wide < 2 ^ 100 ∧
  ∀ (S : Addr) (rs : List Row) (ls : List Addr) (H' : Hp), H S = none → S ≠ d → (∀ l ∈ ls, H l = none ∧ l ≠ d ∧ l ≠ S) → SumsAt H' S rs ls → RowsOk top deep wide rs → Dr H' d L → Go (· = d) H H' → Q (.ref S) H'
end OG

set_option Elab.async false
set_option linter.all false
set_option maxRecDepth 100000
set_option maxHeartbeats 4000000
namespace OG
open PySem PySem.Spec PyProof.Rows L2
/-! ### sums as they are written -/
def Sm (i : Int) : Prop := i.natAbs.log2 < 101
theorem Sm.of {i : Int} (h : i.natAbs ≤ 2 ^ 100) : Sm i := by
  have : i.natAbs < 2 ^ 101 := Nat.lt_of_le_of_lt h (by decide)
  exact PySem.Flt.log2_lt_of (by decide) this
theorem Sm.log {i : Int} (h : Sm i) : i.natAbs.log2 < 1920 := Nat.lt_trans h (by decide)
theorem Sm.len {i : Int} (h : Sm i) : (toString i : Str).length ≤ 102 := by
  have := int_text_length_le (a := i) (k := 101) (by decide) h
  have e : (toString i : Str).length = (toString i : String).length := by
    show (Str.ofString (toString i)).length = _
    exact PySem.ofString_length _
  rw [e]
  exact this
theorem Sm.numL {i : Int} (h : Sm i) : (numL i).length ≤ 102 := by
  have := h.len
  rw [len_tl] at this
  exact this
def partL (o : Int × Int) : List Nat := if o.2 = 1 then numL o.1 else numL o.1 ++ tl "/" ++ numL o.2
def powL (z : Str) (e : Int) : List Nat := if e = 0 then [] else if e = 1 then tl " " ++ tl z else tl " " ++ tl z ++ tl "^" ++ numL e
def termTx (t : Term) : List Nat := partL t.2 ++ powL "n" t.1.1 ++ powL "d" t.1.2
def termsTx (ts : List Term) : List Nat := if ts = [] then tl "0" else TL.joinL (tl " + ") (ts.map termTx)
def rowTx (r : Row) : List Nat := numL r.1 ++ tl ": " ++ termsTx r.2
def sumsTx (rs : List Row) : List Nat := TL.joinL (tl " | ") (rs.map rowTx)
structure TSm (t : Term) : Prop where
  a : Sm t.1.1
  b : Sm t.1.2
  c : Sm t.2.1
  d : Sm t.2.2
  p : 0 ≤ t.1.1
  f : 0 ≤ t.1.2
theorem part_len2 {o : Int × Int} (h1 : Sm o.1) (h2 : Sm o.2) : (partL o).length ≤ 210 := by
  have a := h1.numL
  have b := h2.numL
  have c : (tl "/").length = 1 := by decide +kernel
  unfold partL
  split
  · omega
  · rw [List.length_append, List.length_append]
    omega
theorem pow_len {z : Str} {e : Int} (hz : z.length ≤ 1) (h : Sm e) : (powL z e).length ≤ 110 := by
  have a := h.numL
  have c : (tl " ").length = 1 := by decide +kernel
  have c2 : (tl "^").length = 1 := by decide +kernel
  have l := len_tl z
  unfold powL
  split
  · exact Nat.zero_le _
  · split
    · rw [List.length_append]
      omega
    · rw [List.length_append, List.length_append, List.length_append]
      omega
theorem n_len : ("n" : Str).length ≤ 1 := by decide +kernel
theorem d_len : ("d" : Str).length ≤ 1 := by decide +kernel
theorem term_len {t : Term} (h : TSm t) : (termTx t).length ≤ 430 := by
  have a := part_len2 h.c h.d
  have b := pow_len n_len h.a
  have c := pow_len d_len h.b
  unfold termTx
  rw [List.length_append, List.length_append]
  omega
theorem joinL_le (s : List Nat) (m : Nat) : ∀ ls : List (List Nat), (∀ l ∈ ls, l.length ≤ m) → (TL.joinL s ls).length ≤ ls.length * (m + s.length)
  | ls, h => by
    refine Nat.le_trans (joinL_len s ls) ?_
    induction ls with
    | nil => exact Nat.zero_le _
    | cons l r ih =>
      have h1 := h l List.mem_cons_self
      have h2 := ih fun x hx => h x (List.mem_cons_of_mem _ hx)
      rw [List.map_cons, List.sum_cons, List.length_cons, Nat.succ_mul]
      omega
theorem terms_len {ts : List Term} (h : ∀ t ∈ ts, TSm t) (hl : ts.length ≤ 8) : (termsTx ts).length ≤ 3500 := by
  unfold termsTx
  split
  · have : (tl "0").length = 1 := by decide +kernel
    omega
  · have c : (tl " + ").length = 3 := by decide +kernel
    have := joinL_le (tl " + ") 430 (ts.map termTx) (fun l hl => by
      obtain ⟨t, ht, rfl⟩ := List.mem_map.mp hl
      exact term_len (h t ht))
    rw [List.length_map, c] at this
    have : ts.length * (430 + 3) ≤ 8 * 433 := Nat.mul_le_mul_right _ hl
    omega
theorem row_len {r : Row} (h0 : Sm r.1) (h : ∀ t ∈ r.2, TSm t) (hl : r.2.length ≤ 8) : (rowTx r).length ≤ 3700 := by
  have a := terms_len h hl
  have b := h0.numL
  have c : (tl ": ").length = 2 := by decide +kernel
  unfold rowTx
  rw [List.length_append, List.length_append]
  omega
/-- rows that can be written -/
def RSm (rs : List Row) : Prop := rs.length ≤ 8 ∧ ∀ r ∈ rs, Sm r.1 ∧ (∀ t ∈ r.2, TSm t) ∧ r.2.length ≤ 8
theorem sum_le_mul (m : Nat) : ∀ ls : List Str, (∀ z ∈ ls, z.length ≤ m) → (ls.map (·.length)).sum ≤ ls.length * m
  | [], _ => Nat.zero_le _
  | z :: r, h => by
    have h1 := h z List.mem_cons_self
    have h2 := sum_le_mul m r fun x hx => h x (List.mem_cons_of_mem _ hx)
    rw [List.map_cons, List.sum_cons, List.length_cons, Nat.succ_mul]
    omega
theorem join_tx {α : Type} (sep : Str) (f : α → List Nat) (xs : List α) : Txt.join sep (xs.map fun x => S (f x)) = S (TL.joinL (tl sep) (xs.map f)) := by
  have e := SX.join_S (tl sep) (xs.map f)
  have e1 : SX.S (tl sep) = sep := S_tl _
  rw [e1] at e
  have e2 : (xs.map f).map SX.S = xs.map fun x => S (f x) := by
    rw [List.map_map]
    rfl
  rw [e2] at e
  exact e
def spPartText : Sp := fun vs H Q _ => ∃ (v : V) (o : Int × Int), vs = [v] ∧ Rp H v (encP o) ∧ Sm o.1 ∧ Sm o.2 ∧ Q (.str (S (partL o))) H
def spPowText : Sp := fun vs H Q _ => ∃ (z : Str) (e : Int), vs = [.str z, .int e] ∧ z.length ≤ 1 ∧ Sm e ∧ Q (.str (S (powL z e))) H
def spTermText : Sp := fun vs H Q _ => ∃ (u v : V) (t : Term), vs = [u, v] ∧ Rp H u (encP t.1) ∧ Rp H v (encP t.2) ∧ TSm t ∧ Q (.str (S (termTx t))) H
def spTermsText : Sp := fun vs H Q _ => ∃ (l : Addr) (ts : List Term), vs = [.ref l] ∧ TermsAt H l ts ∧ (∀ t ∈ ts, TSm t) ∧ ts.length ≤ 8 ∧ ∀ H', Same H H' → Q (.str (S (termsTx ts))) H'
def spSumsText : Sp := fun vs H Q _ => ∃ (a : Addr) (rs : List Row) (ls : List Addr), vs = [.ref a] ∧ SumsAt H a rs ls ∧ RSm rs ∧ ∀ H', Same H H' → Q (.str (S (sumsTx rs))) H'
/-- growth_text(growth) -/
def growTx (t b f : Int) : List Nat := numL t ++ tl " by " ++ numL b ++ tl ", figures " ++ numL f
def spGrowText : Sp := fun vs H Q _ => (vs = [.non] ∧ Q (.str "none") H) ∨ ∃ (v : V) (t b f : Int), vs = [v] ∧ Rp H v (.tup [.int t, .int b, .int f]) ∧ Sm t ∧ Sm b ∧ Sm f ∧ Q (.str (S (growTx t b f))) H
theorem rows_sm {top deep wide : Int} {rs : List Row} (h : RowsOk top deep wide rs) (h1 : top ≤ 9) (h2 : deep ≤ 9) (h3 : wide < 2 ^ 100) : RSm rs := by
  refine ⟨by have := h.n4; omega, fun r hr => ?_⟩
  have hs := h.since r hr
  obtain ⟨ht, hl, _⟩ := h.terms r hr
  refine ⟨Sm.of (by omega), fun t htm => ?_, by omega⟩
  have k := ht t htm
  have k1 := k.p0; have k2 := k.p1; have k3 := k.f0; have k4 := k.f1; have k5 := k.o1; have k6 := k.u0; have k7 := k.u1
  refine ⟨Sm.of (by omega), Sm.of (by omega), Sm.of ?_, Sm.of (by omega), k1, k3⟩
  omega
/-! ### the signs of such texts are signs -/
def CpOk (l : List Nat) : Prop := ∀ c ∈ l, c < 0x110000
theorem cp_of (z : String) : CpOk (tl (Str.ofString z)) := by
  intro c hc
  rw [PySem.Str.ofString_eq_toList] at hc
  obtain ⟨x, _, rfl⟩ := List.mem_map.mp hc
  have := x.valid
  show x.val.toNat < 0x110000
  rcases this with h | ⟨_, h⟩
  · exact Nat.lt_trans h (by decide)
  · exact h
theorem cp_app {a b : List Nat} (h : CpOk a) (k : CpOk b) : CpOk (a ++ b) := fun c hc => (List.mem_append.mp hc).elim (h c) (k c)
theorem cp_nil : CpOk [] := fun _ h => by cases h
theorem cp_num (i : Int) : CpOk (numL i) := cp_of _
theorem cp_part (o : Int × Int) : CpOk (partL o) := by
  unfold partL
  split
  · exact cp_num _
  · exact cp_app (cp_app (cp_num _) (cp_of _)) (cp_num _)
theorem cp_pow (z : String) (e : Int) : CpOk (powL (Str.ofString z) e) := by
  unfold powL
  split
  · exact cp_nil
  · split
    · exact cp_app (cp_of _) (cp_of _)
    · exact cp_app (cp_app (cp_app (cp_of _) (cp_of _)) (cp_of _)) (cp_num _)
theorem cp_term (t : Term) : CpOk (termTx t) := cp_app (cp_app (cp_part _) (cp_pow _ _)) (cp_pow _ _)
theorem cp_str {l : List Nat} (h : CpOk l) : PyData.strOk (S l) = true := by
  unfold PyData.strOk
  rw [Array.all_eq_true']
  intro c hc
  have hc2 : c ∈ l := by simpa using hc
  simp only [decide_eq_true_eq]
  exact h c hc2
theorem dps_strs {K : PySem.W.Frag} {H : Hp} : ∀ zs : List Str, DpAll K H (zs.map V.str) (zs.map PyData.str)
  | [] => .nil
  | z :: r => .cons (.str z) (dps_strs r)
theorem depth_strs : ∀ zs : List Str, PyData.depthAll (zs.map PyData.str) = 0
  | [] => rfl
  | z :: r => by
    show max 0 (PyData.depthAll (r.map PyData.str)) = 0
    rw [depth_strs r]
    rfl
theorem lay_strs : ∀ zs : List Str, (∀ z ∈ zs, PyData.strOk z = true) → PyData.canLayAll0 (zs.map PyData.str) = true
  | [], _ => rfl
  | z :: r, h => by
    show (PyData.strOk z && PyData.canLayAll0 (r.map PyData.str)) = true
    rw [h z List.mem_cons_self, lay_strs r fun x hx => h x (List.mem_cons_of_mem _ hx)]
    rfl
theorem shaped_strs {zs : List Str} (h : ∀ z ∈ zs, PyData.strOk z = true) : SeqAt.shaped (.list (zs.map PyData.str)) = true := by
  unfold SeqAt.shaped
  have h1 : (PyData.list (zs.map PyData.str)).canLay0 = true := lay_strs zs h
  have h2 : (PyData.list (zs.map PyData.str)).depth ≤ 64 := by
    show PyData.depthAll (zs.map PyData.str) + 1 ≤ 64
    rw [depth_strs]
    decide
  rw [h1, decide_eq_true h2]
  rfl
/-! ### a comprehension over a list of pairs -/
theorem lc_list_map2 {K : PySem.W.Frag} {a : Addr} {xs : List V} {g : TG} {te : TE} {vs : List Nat} {σ : L2.St} {H1 : Hp} {D : Addr} {Qd : Hp → Prop} (ys : List V)
    (hlen : ys.length = xs.length) (hz : xs.length < 100000) (hS : H1 a = some (.lst xs)) (hD : H1 D = none)
    (he : ∀ (i : Nat) (x y : V) (H2 : Hp) (Nx : V → Hp → Prop), xs[i]? = some x → ys[i]? = some y → Same H1 H2 → (∀ H3, Same H2 H3 → Nx y H3) → g x (wipe σ vs) H2 fun σ2 H3 => wipe σ2 vs = wipe σ vs ∧ te σ2 H3 Nx)
    (hd : ∀ H', Same H1 H' → H' D = some (.lst ys) → Qd H') :
    ∃ W : Nat → Nat → Hp → Prop, (∃ m, W 0 m (upd H1 D (.lst []))) ∧ ∀ i m H, W i m H →
      ((Itl K a).stop i H ∧ Qd H) ∨ ((Itl K a).go i H ∧ ∃ Nx : Hp → Prop, (∀ H', Nx H' → ∃ m', m' < m ∧ W (i + 1) m' H') ∧ ∀ x H', (Itl K a).yld i H x H' → g x (wipe σ vs) H' fun σ2 H2 => wipe σ2 vs = wipe σ vs ∧ tYes σ2 H2 fun b H3 =>
        if b = true then te σ2 H3 fun y H4 => ∃ acc, H4 D = some (.lst acc) ∧ acc.length < sizeLine ∧ Nx (upd H4 D (.lst (acc ++ [y]))) else Nx H3) := by
  refine lc_list (xs := xs) (fun i H' => Same H1 H' ∧ H' D = some (.lst (ys.take i))) ⟨same_new hD, upd_same⟩ (fun i H' hi hP => SqL.of (hP.1 _ _ hS)) (fun i x H' hx hP => ?_) (fun H' hP => ?_)
  · obtain ⟨sm, hl⟩ := hP
    have hi : i < ys.length := by
      rw [hlen]
      obtain ⟨h, _⟩ := List.getElem?_eq_some_iff.mp hx
      exact h
    refine he i x ys[i] H' _ hx (List.getElem?_eq_getElem hi) sm fun H3 s3 => ?_
    refine ⟨ys.take i, s3 _ _ hl, ?_, Same.upd_new (sm.trans s3) hD, ?_⟩
    · rw [List.length_take]
      exact szl (by omega)
    · rw [upd_same, List.take_add_one, List.getElem?_eq_getElem hi]
      rfl
  · obtain ⟨sm, hl⟩ := hP
    rw [← hlen, List.take_length] at hl
    exact hd H' sm hl
theorem rpl_terms {H : Hp} {vs : List V} {ts : List Term} (h : RpL H vs (ts.map encT)) {i : Nat} {x : V} (hx : vs[i]? = some x) : ∃ t, ts[i]? = some t ∧ Rp H x (encT t) := by
  obtain ⟨d, hd, hr⟩ := h.get hx
  rw [List.getElem?_map] at hd
  cases ht : ts[i]? with
  | none => rw [ht] at hd; cases hd
  | some t =>
    rw [ht] at hd
    have : encT t = d := Option.some.inj hd
    exact ⟨t, rfl, this ▸ hr⟩
end OG

set_option Elab.async false
set_option linter.all false
set_option maxRecDepth 100000
set_option maxHeartbeats 4000000
namespace OG
open PySem PySem.Spec PyProof.Rows L2
/-! ### repr of data, where no repr is under way -/
def rRepr (K : PySem.W.Frag) : List V → Hp → VK → Prop := fun xs H Q => ∃ (a : Addr) (d : PyData), xs = [.ref a] ∧ Dp K H (.ref a) d ∧ d.showable = true ∧ d.hasDict = false ∧ d.depth ≤ 60 ∧ d.shown.length ≤ sizeLine ∧ Q (.str d.shown) H
theorem call_repr {X : Cx} (guard : X.A.guards = some []) (room : X.A.units + 64 < cLine) : CallR X (.builtin "repr") (rRepr X.K) := by
  intro pins sh st H args vals Qv inv rel ask
  obtain ⟨a, d, rfl, told, can, plain, deep, long, wish⟩ := ask
  obtain ⟨arg, rfl, rarg⟩ := rel.one
  obtain ⟨as, reads⟩ := Dp.reads inv d _ _ told rarg
  cases rarg
  refine repr_of_reads' reads can (fun z => by rw [plain] at z; cases z) guard (by omega) (fun _ _ e => e) (fun hp u tok keep => ?_) long
  exact ⟨.str d.shown, H, inv.kept keep, ⟨u, rfl⟩, wish⟩
/-! ### a def that is called where no repr is under way -/
def RunG (P : Program) (w : World) (K : PySem.W.Frag) (mg : Str → Option Value) (base : Heap) (k : Nat) (f : Addr) (fd : FuncData) (ps : List Str) (sp : Sp) : Prop :=
  ∀ (A : Around) (outer : List Env) (sh : Shared) (H : Hp) (args : Args) (us : List Value) (vs : List V) (Qv : VK) (Ev : XK), A.guards = some [] → Room k A → Env0 P w K mg base A outer sh H → BindsTo sh fd args (ps.zip us) → Vals vs us → sp vs H Qv Ev →
    codeAny (model P w) A (.call (.ref f) args) (CR CX0 outer P w H sh Qv Ev) sh
theorem runG_of {P : Program} {w : World} {K : PySem.W.Frag} {mg : Str → Option Value} {base : Heap} {x qual : Str} {st : Stmt} {f : Addr} {fd : FuncData} {N ps : List Str} {k : Nat} {sp : Sp}
    (F : Fun K x qual st f fd) (S : FnScope N ps (defScope st)) (len : ∀ vs H Qv Ev, sp vs H Qv Ev → vs.length = ps.length)
    (body : ∀ (cdv : Value) (A : Around) (outer : List Env) (sh : Shared) (H : Hp) (vs : List V) (Qv : VK) (Ev : XK), A.guards = some [] → Room k (A.deeper (envOfC qual (defScope st) sh.heap.objs.size f cdv)) → sp vs H Qv Ev →
      ∃ t, PSs (cxOf CX0 P w K mg base N qual (defScope st) f cdv A outer sh H Ev).nox (defBody st) t ∧ t { nx := fun _ H' => Qv .non H', rt := Qv } (start N vs) H) : RunG P w K mg base (k + 1) f fd ps sp := by
  intro A outer sh H args us vs Qv Ev guard room env binds rel ask
  obtain ⟨oc, od, kV, doc, pm, an, cdv, ct, osl, rfl, look, code⟩ := F.ex
  have many := len _ _ _ _ ask
  have written : K.In sh.heap := env.mod.kin.keeps fun b o e => (env.bs b o e).1
  have noLimit : sh.heap.NoLimit := env.mod.nolimit.keeps fun b o e => (env.bs b o e).1
  refine codeAny_call_function room.depth (written _ _ look) rfl S.co S.gen rfl (PySem.W.codeRec_of written code) (binds _ _ _ _ ?_)
  refine wpAny_newFunctionEnv_cells S.kind (fun pr hpr => ?_) fun env1 same sh1 fresh => ?_
  · rcases S.par pr.1 (List.of_mem_zip (a := pr.1) (b := pr.2) hpr).1 with kind | kind
    · exact .inl kind
    · exact .inr ⟨kind, PySem.W.cellsFrom_some _ _ _ (.inl kind)⟩
  subst same
  refine ⟨noLimit.keeps fresh.toInCall.keep, codeAny_func ?_⟩
  obtain ⟨t, told, holds⟩ := body cdv A outer sh H vs Qv Ev guard (room.deeper _) ask
  refine wpAny_mono (told.nox.run [] sh1 (start N vs) H _ (inv_start S room.hd env many rel fresh) holds) (fun flow sh2 done => ?_) fun _ _ bad => bad
  cases flow with
  | next =>
    obtain ⟨st2, H2, inv2, wish⟩ := done
    exact ⟨V.non, H2, inv2.os, inv2.bare, inv2.base, inv2.hok, rfl, wish⟩
  | ret u =>
    obtain ⟨v, st2, H2, inv2, rv, wish⟩ := done
    exact ⟨v, H2, inv2.os, inv2.bare, inv2.base, inv2.hok, rv, wish⟩
  | brk =>
    obtain ⟨_, _, _, bad⟩ := done
    exact bad.elim
  | cont =>
    obtain ⟨_, _, _, bad⟩ := done
    exact bad.elim
/-! ### the law is called where no repr is under way -/
abbrev scriptO (vs : List Value) : Obj := { cls := .type "list", data := .seq vs.toArray }
abbrev LawEnds (sh : Shared) : Result → Shared → Prop := fun r sh' => r = .ok (.ret (.bool true)) ∧ OldK sh.heap sh'.heap ∧ sh'.os = sh.os ∧ AllBare sh'.gens
section
variable {P : Program} {w : World} {K : PySem.W.Frag} {mg mb : Str → Option Value} {k : Nat} {fa a : Addr} {fd : FuncData} {x : Str} {sp : Sp} {sh : Shared} {vs : List Value} {ns : List Int}
/-- from a heap in which at most the script is tracked -/
theorem law_from (H : Hp) (only : Only H) (lone : ∀ b u, H b = some u → b = a) (apart : ∀ u, H a = some u → K.lookup a = none) (hok : HOk P w H sh.heap)
    (written : K.In sh.heap) (globals : sh.heap.Ns mainGlobals mg) (blt : sh.heap.Ns builtinsNs mb) (names : ∀ y : Str, y ≠ "__name__" → mb y = bootBuiltins y) (noLimit : sh.heap.NoLimit) (noGens : sh.gens = #[])
    (scr : sh.heap.get? a = some (scriptO vs)) (room : Room k callerA) (runs : ∀ base : Heap, K.In base → base.Ns mainGlobals mg → RunG P w K mg base k fa fd [x] sp)
    (binds : ∀ (s : Shared) (u : Value), BindsTo s fd ⟨[u], []⟩ [(x, u)]) (ask : sp [.ref a] H (fun v _ => v = .bl true) fun _ _ _ => False) :
    codeAny (model P w) callerA (.call (.ref fa) ⟨[.ref a], []⟩) (LawEnds sh) sh := by
  have untracked : ∀ {b : Addr}, b ≠ a → H b = none := fun {b} ne => by
    cases e : H b with
    | none => rfl
    | some u => exact absurd (lone b u e) ne
  have seen : ∀ {b : Addr} {m : Str → Option Value}, sh.heap.Ns b m → (hidT sh.heap H).Ns b m := fun {b m} ⟨o, es, ep, e, dt, r⟩ =>
    ⟨o, es, ep, hidT_get e (untracked fun z => by
      subst z
      rw [scr] at e
      cases e
      cases dt), dt, r⟩
  have writtenB : K.In (hidT sh.heap H) := fun b o e => hidT_get (written b o e) (by
    by_cases z : b = a
    · subst z
      cases t : H b with
      | none => rfl
      | some u =>
        rw [apart u t] at e
        cases e
    · exact untracked z)
  obtain ⟨mc, lim1, lim2⟩ := noLimit
  have env : Env0 P w K mg (hidT sh.heap H) callerA [] sh H :=
    ⟨rfl, ⟨writtenB, seen globals, ⟨mb, seen blt, names⟩, ⟨mc, seen lim1, lim2⟩⟩, fun b o e => of_hidT e, Nat.le_of_eq (hidT_size _ _), trivial, fun b hb => absurd (show b ∈ ([] : List Addr) from hb) (by simp), hok, .of_eq noGens⟩
  refine codeAny_mono (runs _ writtenB (seen globals) callerA [] sh H ⟨[.ref a], []⟩ [.ref a] [.ref a] _ _ rfl room env (binds sh (.ref a)) (.cons rfl .nil) ask) fun r sh2 ended => ?_
  match r, ended with
  | .ok (.ret u), ended =>
    obtain ⟨v, H2, os, bare, un, hok2, rv, isTrue⟩ := ended
    have isTrue' : v = .bl true := isTrue
    subst isTrue'
    cases rv
    refine ⟨rfl, OldK.of_keep fun b o e => ?_, os, bare⟩
    rcases only b with z | ⟨ob, xs, z⟩
    · exact un.keep b o e z (fun m => absurd (show b ∈ ([] : List Addr) from m) (by simp)) (by simp)
    · have before := (hok b _ z).1
      have behind := (hok2 b _ (un.frzs b ob _ z)).1
      rw [e] at before
      cases before
      exact behind
  | .ok .next, ended => exact ended.elim
  | .ok .brk, ended => exact ended.elim
  | .ok .cont, ended => exact ended.elim
  | .error e, ended => exact ended.elim
theorem law_callG (written : K.In sh.heap) (globals : sh.heap.Ns mainGlobals mg) (blt : sh.heap.Ns builtinsNs mb) (names : ∀ y : Str, y ≠ "__name__" → mb y = bootBuiltins y) (noLimit : sh.heap.NoLimit) (noGens : sh.gens = #[])
    (scr : sh.heap.get? a = some (scriptO vs)) (whole : IntsAre vs ns) (short : ns.length ≤ sizeLine) (room : Room k callerA) (runs : ∀ base : Heap, K.In base → base.Ns mainGlobals mg → RunG P w K mg base k fa fd [x] sp)
    (binds : ∀ (s : Shared) (u : Value), BindsTo s fd ⟨[u], []⟩ [(x, u)]) (ask : ∀ H : Hp, Only H → SqL K H a (ns.map V.int) → sp [.ref a] H (fun v _ => v = .bl true) fun _ _ _ => False) :
    codeAny (model P w) callerA (.call (.ref fa) ⟨[.ref a], []⟩) (LawEnds sh) sh := by
  have rel := vals_ints whole
  have long := whole.length
  cases inK : K.lookup a with
  | some o =>
    have same := written a o inK
    rw [scr] at same
    cases same
    have o1 : Only (fun _ => none) := fun _ => .inl rfl
    refine law_from (fun _ => none) o1 (fun b u z => nomatch (show (none : Option HO) = some u from z)) (fun u z => nomatch (show (none : Option HO) = some u from z)) (fun b u z => nomatch (show (none : Option HO) = some u from z)) written globals blt names noLimit noGens scr room runs binds (ask _ o1 (.inr ⟨_, vs.toArray, _, inK, rfl, rfl, rfl, ?_, ?_⟩))
    · rw [List.size_toArray, long]
      exact short
    · simpa using rel
  | none =>
    let H0 : Hp := fun b => if b = a then some (.frz (scriptO vs) (.lst (ns.map V.int))) else none
    have at0 : H0 a = some (.frz (scriptO vs) (.lst (ns.map V.int))) := if_pos rfl
    have out0 : ∀ b u, H0 b = some u → b = a ∧ u = .frz (scriptO vs) (.lst (ns.map V.int)) := fun b u e => by
      by_cases z : b = a
      · subst z
        rw [at0] at e
        exact ⟨rfl, (Option.some.inj e).symm⟩
      · have e2 : H0 b = none := if_neg z
        rw [e2] at e
        cases e
    have o1 : Only H0 := fun b => by
      cases e : H0 b with
      | none => exact .inl rfl
      | some u => exact .inr ⟨_, _, by rw [(out0 b u e).2]⟩
    refine law_from H0 o1 (fun b u e => (out0 b u e).1) (fun _ _ => inK) (fun b u e => ?_) written globals blt names noLimit noGens scr room runs binds (ask H0 o1 (.inl (.inr ⟨_, at0⟩)))
    obtain ⟨rfl, rfl⟩ := out0 b u e
    exact ⟨scr, by rw [List.length_map]; exact short, vs, _, rel, scr⟩
end
theorem walk_ofG {l : PySem.W.OpenLaw} {n k : Nat} {q : Program} {loose : List Str} {XP : (Str → Option Value) → Heap → Prop} {YP : World → Heap → Prop} {d : DefRec} {K : Params → PySem.W.Frag} {sp : World → Sp} {x : Str}
    (most : l.most = some n) (fits : n ≤ sizeLine) (plain : d.params.defaults = []) (room : Room k callerA) (known : ∀ (w : World) (h : Heap), YP w h → (K w.params).In h)
    (F : ∀ (w : World) (mg : Str → Option Value) (fa : Addr) (h : Heap), (K w.params).In h → h.Ns mainGlobals mg → mg d.name = some (.ref fa) →
      ∃ fd : FuncData, (∀ (s : Shared) (u : Value), BindsTo s fd ⟨[u], []⟩ [(x, u)]) ∧ ∀ base : Heap, (K w.params).In base → base.Ns mainGlobals mg → RunG l.prog w (K w.params) mg base k fa fd [x] (sp w))
    (ask : ∀ (w : World) (H : Hp) (a : Addr) (ns : List Int), ns.length ≤ n → Only H → SqL (K w.params) H a (ns.map V.int) → sp w [.ref a] H (fun v _ => v = .bl true) fun _ _ _ => False) :
    PySem.W.WalkO q loose XP YP l.row.toRowW d [] (fun f vs => PySem.call f vs) := by
  refine Att.attach_call most plain fun w _ sh mg _ fa _ _ _ _ a vs ns ground holds _ _ _ isLaw scr whole len noGens => ?_
  have written := known w _ holds
  obtain ⟨fd, binds, runs⟩ := F w mg fa _ written ground.T.g isLaw
  exact law_callG written ground.T.g ground.T.b ground.T.builtins ground.T.nolimit noGens scr whole (Nat.le_trans len fits) room runs binds fun H only sq => ask w H a ns len only sq
end OG

set_option Elab.async false
set_option linter.all false
set_option maxRecDepth 100000
set_option maxHeartbeats 4000000
namespace OG
open PySem PySem.Spec PyProof.Rows L2
/-! ### repr of a dict of plans -/
def pyPs (ps : PL) : List (PyData × PyData) := ps.map fun p => (.str p.1, toPy (.tup (encs p.2)))
section
variable {X : Cx} {pins : List (Addr × Obj)} {σ : L2.St} {H : Hp} {s : Shared}
mutual
theorem rp_reads (I : Inv X pins σ H s) : ∀ (d : D) (v : V) (u : Value), Rp H v d → RelV v u → Reads s.heap u (toPy d) []
  | .non, _, _, h, r => by
    rw [show _ = V.non from h] at r
    cases r
    exact .none
  | .bl b, _, _, h, r => by
    rw [show _ = V.bl b from h] at r
    cases r
    exact .bool b
  | .int n, _, _, h, r => by
    rw [show _ = V.int n from h] at r
    obtain ⟨t, rfl⟩ := r
    exact .int n t
  | .str z, _, _, h, r => by
    rw [show _ = V.str z from h] at r
    obtain ⟨t, rfl⟩ := r
    exact .str z t
  | .tup xs, _, _, h, r => by
    obtain ⟨a, vs, rfl, ha, hx⟩ := h
    cases r
    obtain ⟨its, rv, ⟨o, ho, hc, n, hd⟩, _⟩ := I.tuple (SqT.of ha)
    exact .tuple ho hc hd (rp_readsL I xs vs its hx rv)
theorem rp_readsL (I : Inv X pins σ H s) : ∀ (xs : List D) (vs : List V) (us : List Value), RpL H vs xs → Vals vs us → ReadsAll s.heap us (toPys xs) []
  | [], _, _, h, r => by
    rw [show _ = [] from h] at r
    cases r
    exact .nil
  | x :: xs, _, _, h, r => by
    obtain ⟨v, q, rfl, h1, h2⟩ := h
    cases r with
    | cons r1 r2 => exact ReadsAll.cons (as := []) (bs := []) (rp_reads I x _ _ h1 r1) (rp_readsL I xs _ _ h2 r2)
end
theorem psv_reads (I : Inv X pins σ H s) : ∀ {ps : PL} {kvs : List (Key × V)} {vs : List (Key × Value)} {es : List DictEntry}, PsV H kvs ps → KV kvs vs → Pairs (mixKind X.prog X.w) es vs →
    ReadsAll s.heap (es.map (·.key)) ((pyPs ps).map (·.1)) [] ∧ ReadsAll s.heap (es.map (·.val)) ((pyPs ps).map (·.2)) []
  | [], _, _, _, h, k, p => by
    rw [show _ = [] from h] at k
    cases k
    cases p
    exact ⟨.nil, .nil⟩
  | q :: r, _, _, _, h, k, p => by
    obtain ⟨v, l, rfl, h1, h2⟩ := h
    cases k with
    | cons k1 k2 =>
      cases p with
      | cons p1 p2 p3 =>
        obtain ⟨a1, a2⟩ := psv_reads I h2 k2 p3
        obtain ⟨e, rv⟩ := k1
        refine ⟨ReadsAll.cons (as := []) (bs := []) ?_ a1, ReadsAll.cons (as := []) (bs := []) ?_ a2⟩
        · rcases keyIs_shape p1 with ⟨i, t, e1, e2⟩ | ⟨x, t, e1, e2⟩
          · rw [← e] at e1
            cases e1
          · rw [← e] at e1
            cases e1
            dsimp only
            rw [e2]
            exact .str _ t
        · dsimp only
          rw [p2]
          exact rp_reads I (.tup (encs q.2)) _ _ h1 rv
end
def rReprD : List V → Hp → VK → Prop := fun xs H Q => ∃ (a : Addr) (ps : PL), xs = [.ref a] ∧ PsAt H a ps ∧ (PyData.dict (pyPs ps)).showable = true ∧ (PyData.dict (pyPs ps)).depth ≤ 60 ∧ (PyData.dict (pyPs ps)).shown.length ≤ sizeLine ∧ Q (.str (PyData.dict (pyPs ps)).shown) H
theorem call_reprD {X : Cx} (guard : X.A.guards = some []) (room : X.A.units + 64 < cLine) : CallR X (.builtin "repr") rReprD := by
  intro pins sh st H args vals Qv inv rel ask
  obtain ⟨a, ps, rfl, ⟨kvs, ha, hV⟩, can, deep, long, wish⟩ := ask
  obtain ⟨arg, rfl, rarg⟩ := rel.one
  cases rarg
  obtain ⟨_, lo, vs, rk, o, es, ep, h1, h2, h3, _, h5, _⟩ := (show ObjOk X.prog X.w H sh.heap a (.dK kvs) from inv.hok a _ ha)
  obtain ⟨r1, r2⟩ := psv_reads inv hV rk h5
  refine repr_of_reads' (Reads.dict h1 h2.1 h3 r1 r2) can (fun _ m => ?_) guard (by omega) (fun _ _ e => e) (fun hp u tok keep => ?_) long
  · have m' : sysModules = a := by simpa using m
    rw [← m'] at lo
    simp at lo
  · exact ⟨.str _, H, inv.kept keep, ⟨u, rfl⟩, wish⟩
/-! ### how long such a text is -/
theorem ls_int {i : Int} (h0 : -99 ≤ i) (h1 : i ≤ 99) : (PyData.int i).showable = true ∧ (PyData.int i).leavesShort 8 = true := by
  obtain ⟨a, b⟩ := num_small h0 h1
  refine ⟨decide_eq_true b, decide_eq_true ?_⟩
  have e : (toString i : Str).length = (numL i).length := len_tl _
  show (toString i : Str).length ≤ 8
  omega
theorem ls_str {x : Str} (h : ∀ c ∈ tl x, c < 16 ^ 8) : (PyData.str x).leavesShort 8 = true := by
  unfold PyData.leavesShort
  rw [List.all_eq_true]
  exact fun c hc => decide_eq_true (h c hc)
theorem ls_name {x : Str} (h : nameB x = true) : (PyData.str x).leavesShort 8 = true := ls_str fun c hc => by
  have := abc_range c (name_abc h c hc)
  have e : (16 : Nat) ^ 8 = 4294967296 := by decide
  omega
theorem bulk_str (x : Str) : (PyData.str x).bulk = x.length := rfl
structure Sh (d : PyData) (n : Nat) : Prop where
  s : d.showable = true
  l : d.leavesShort 8 = true
  b : d.bulk ≤ n
structure ShA (ds : List PyData) (n : Nat) : Prop where
  s : PyData.showableAll ds = true
  l : PyData.leavesShortAll 8 ds = true
  b : PyData.bulkAll ds ≤ n
theorem ShA.nil {n : Nat} : ShA [] n := ⟨rfl, rfl, Nat.zero_le _⟩
theorem ShA.cons {d : PyData} {ds : List PyData} {n m k : Nat} (h : Sh d n) (t : ShA ds m) (e : n + 1 + m ≤ k) : ShA (d :: ds) k := by
  refine ⟨?_, ?_, ?_⟩
  · show (d.showable && PyData.showableAll ds) = true
    rw [h.s, t.s]
    rfl
  · show (d.leavesShort 8 && PyData.leavesShortAll 8 ds) = true
    rw [h.l, t.l]
    rfl
  · show d.bulk + 1 + PyData.bulkAll ds ≤ k
    have := h.b
    have := t.b
    omega
theorem ShA.tup {ds : List PyData} {n : Nat} (h : ShA ds n) : Sh (.tuple ds) n := ⟨h.s, h.l, h.b⟩
theorem sh_int {i : Int} (h0 : -99 ≤ i) (h1 : i ≤ 99) : Sh (.int i) 0 := ⟨(ls_int h0 h1).1, (ls_int h0 h1).2, Nat.le_refl _⟩
theorem sh_name {x : Str} (h : nameB x = true) : Sh (.str x) 8 := ⟨rfl, ls_name h, (name_len h).2⟩
theorem sh_lit {x : Str} {n : Nat} (h1 : (tl x).all (fun c => decide (c < 16 ^ 8)) = true) (h2 : x.length ≤ n) : Sh (.str x) n := ⟨rfl, h1, h2⟩
theorem sh_end {sc : List Str} {e : Str × Int} (hs : ScOk sc) (h : EndOk sc e) : Sh (toPy (encE e)) 10 := by
  have b := (end_small hs h).2.2
  have hn : Sh (.str e.1) 8 := by
    rcases h with ⟨h1, _⟩ | ⟨h1, _⟩
    · rw [h1]
      exact sh_lit (by decide +kernel) (by decide +kernel)
    · rcases hs _ h1 with h2 | h2
      · rw [h2]
        exact sh_lit (by decide +kernel) (by decide +kernel)
      · exact sh_name h2
  exact (ShA.cons hn (ShA.cons (sh_int b.1 b.2) ShA.nil (m := 0) (k := 1) (by omega)) (by omega)).tup
mutual
theorem sh_thing {C : Str → Prop} {A : Prop} : ∀ (t : Thing) (sc : List Str) (n : Nat), TOk C A sc n t → ScOk sc → Sh (toPy (enc t)) (50 * cntT t - 1)
  | .step k, sc, n, h, hs => by
    exact (ShA.cons (n := 4) (sh_lit (by decide +kernel) (by decide +kernel)) (ShA.cons (sh_int (by have := h.1; omega) h.2) ShA.nil (m := 0) (k := 1) (by omega)) (by show 4 + 1 + 1 ≤ 50 * 1 - 1; omega)).tup
  | .loop x a b body, sc, n, h, hs => by
    obtain ⟨h1, h2, h3, h4, h5, m, rfl, h6⟩ := h
    have ih := sh_things body _ _ h6 (scOk_snoc hs h1)
    exact (ShA.cons (n := 3) (sh_lit (by decide +kernel) (by decide +kernel)) (ShA.cons (sh_name h1) (ShA.cons (sh_end hs h3) (ShA.cons (sh_end hs h4) (ShA.cons ih.tup ShA.nil (m := 0) (k := 50 * cntB body + 1) (by omega)) (k := 50 * cntB body + 12) (by omega)) (k := 50 * cntB body + 23) (by omega)) (k := 50 * cntB body + 32) (by omega)) (by show _ ≤ 50 * (1 + cntB body) - 1; omega)).tup
  | .test a b x y, sc, n, h, hs => by
    obtain ⟨h3, h4, h5, m, rfl, h6, h7⟩ := h
    have ih := sh_things x _ _ h6 hs
    have ih2 := sh_things y _ _ h7 hs
    exact (ShA.cons (n := 2) (sh_lit (by decide +kernel) (by decide +kernel)) (ShA.cons (sh_end hs h3) (ShA.cons (sh_end hs h4) (ShA.cons ih.tup (ShA.cons ih2.tup ShA.nil (m := 0) (k := 50 * cntB y + 1) (by omega)) (k := 50 * cntB x + 50 * cntB y + 2) (by omega)) (k := 50 * cntB x + 50 * cntB y + 13) (by omega)) (k := 50 * cntB x + 50 * cntB y + 24) (by omega)) (by show _ ≤ 50 * (1 + cntB x + cntB y) - 1; omega)).tup
  | .twice b, sc, n, h, hs => by
    obtain ⟨h5, m, rfl, h6⟩ := h
    have ih := sh_things b _ _ h6 hs
    exact (ShA.cons (n := 6) (sh_lit (by decide +kernel) (by decide +kernel)) (ShA.cons ih.tup ShA.nil (m := 0) (k := 50 * cntB b + 1) (by omega)) (by show _ ≤ 50 * (1 + cntB b) - 1; omega)).tup
  | .call x e, sc, n, h, hs => by
    exact (ShA.cons (n := 4) (sh_lit (by decide +kernel) (by decide +kernel)) (ShA.cons (sh_name h.1) (ShA.cons (sh_end hs h.2.2) ShA.nil (m := 0) (k := 11) (by omega)) (k := 20) (by omega)) (by show 4 + 1 + 20 ≤ 50 * 1 - 1; omega)).tup
  | .again k w, sc, n, h, hs => by
    obtain ⟨_, h1, h2, h3⟩ := h
    have hw : Sh (.str w) 6 := by
      rcases h3 with rfl | rfl | rfl
      · exact sh_lit (by decide +kernel) (by decide +kernel)
      · exact sh_lit (by decide +kernel) (by decide +kernel)
      · exact sh_lit (by decide +kernel) (by decide +kernel)
    exact (ShA.cons (n := 5) (sh_lit (by decide +kernel) (by decide +kernel)) (ShA.cons (sh_int (by omega) (by omega)) (ShA.cons hw ShA.nil (m := 0) (k := 7) (by omega)) (k := 8) (by omega)) (by show 5 + 1 + 8 ≤ 50 * 1 - 1; omega)).tup
theorem sh_things {C : Str → Prop} {A : Prop} : ∀ (ts : List Thing) (sc : List Str) (n : Nat), TsOk C A sc n ts → ScOk sc → ShA (toPys (encs ts)) (50 * cntB ts)
  | [], _, _, _, _ => ShA.nil
  | t :: r, sc, n, h, hs => by
    have h1 := sh_thing t sc n h.1 hs
    have h2 := sh_things r sc n h.2 hs
    have c := cnt_pos t
    exact ShA.cons h1 h2 (by show _ ≤ 50 * (cntT t + cntB r); omega)
end
theorem ps_show : ∀ (ps : PL), (∀ p ∈ ps, nameB p.1 = true ∧ TsOk CT True ["n"] 4 p.2 ∧ cntB p.2 ≤ 101) → PyData.showableKv (pyPs ps) = true ∧ PyData.leavesShortKv 8 (pyPs ps) = true ∧ PyData.bulkKv (pyPs ps) ≤ 5100 * ps.length ∧ PyData.depthKv (pyPs ps) ≤ 20
  | [], _ => ⟨rfl, rfl, Nat.le_refl _, Nat.zero_le _⟩
  | p :: r, h => by
    obtain ⟨a1, a2, a3, a4⟩ := ps_show r fun q hq => h q (List.mem_cons_of_mem _ hq)
    obtain ⟨h1, h2, h3⟩ := h p List.mem_cons_self
    have n1 := sh_name h1
    have n2 := (sh_things p.2 _ _ h2 scOk_n).tup
    have dp := (things_py p.2 _ _ h2 scOk_n).2
    refine ⟨?_, ?_, ?_, ?_⟩
    · show ((PyData.str p.1).showable && (PyData.tuple (toPys (encs p.2))).showable && PyData.showableKv (pyPs r)) = true
      rw [n1.s, n2.s, a1]
      rfl
    · show ((PyData.str p.1).leavesShort 8 && (PyData.tuple (toPys (encs p.2))).leavesShort 8 && PyData.leavesShortKv 8 (pyPs r)) = true
      rw [n1.l, n2.l, a2]
      rfl
    · show (PyData.str p.1).bulk + (PyData.tuple (toPys (encs p.2))).bulk + 2 + PyData.bulkKv (pyPs r) ≤ 5100 * (r.length + 1)
      have := n1.b
      have := n2.b
      omega
    · show max (max 0 (PyData.depthAll (toPys (encs p.2)) + 1)) (PyData.depthKv (pyPs r)) ≤ 20
      omega
theorem ps_repr {ps : PL} (hl : ps.length ≤ 3) (h : ∀ p ∈ ps, nameB p.1 = true ∧ TsOk CT True ["n"] 4 p.2 ∧ cntB p.2 ≤ 101) : (PyData.dict (pyPs ps)).showable = true ∧ (PyData.dict (pyPs ps)).depth ≤ 60 ∧ (PyData.dict (pyPs ps)).shown.length ≤ sizeLine := by
  obtain ⟨a1, a2, a3, a4⟩ := ps_show ps h
  refine ⟨a1, ?_, PyData.shown_fits_bulk (B := 8) (by decide) (by decide) a2 ?_⟩
  · show PyData.depthKv (pyPs ps) + 1 ≤ 60
    omega
  · show PyData.bulkKv (pyPs ps) ≤ 2 ^ 20
    have e : (2 : Nat) ^ 20 = 1048576 := by decide
    omega
end OG

set_option Elab.async false
set_option linter.all false
set_option maxRecDepth 100000
set_option maxHeartbeats 4000000
namespace K08
open PySem PySem.Spec PyProof.Rows L2 OG
open C8 (pss_cut pe_gc)

def topS (i : Nat) : Stmt := PySem.Challenge.pw_outgrow_k08_steps_walked.main.body.getD i (.Pass ⟨0, 0, 0, 0⟩)
abbrev sWalk___init__ : Stmt := inClass (topS 6) 0
abbrev NWalk___init__ : List Str := ["self", "plans", "most"]
theorem scWalk___init__ : FnScope NWalk___init__ ["self", "plans", "most"] (defScope sWalk___init__) := ⟨rfl, rfl, rfl, by decide +kernel, rfl, by decide +kernel, by decide +kernel⟩

abbrev sWalk_visit : Stmt := inClass (topS 6) 1
abbrev NWalk_visit : List Str := ["self"]
theorem scWalk_visit : FnScope NWalk_visit ["self"] (defScope sWalk_visit) := ⟨rfl, rfl, rfl, by decide +kernel, rfl, by decide +kernel, by decide +kernel⟩

abbrev swalked : Stmt := topS 7
abbrev Nwalked : List Str := ["plans", "name", "size", "most"]
theorem scwalked : FnScope Nwalked ["plans", "name", "size", "most"] (defScope swalked) := ⟨rfl, rfl, rfl, by decide +kernel, rfl, by decide +kernel, by decide +kernel⟩

abbrev splan_steps : Stmt := topS 8
abbrev Nplan_steps : List Str := ["walk", "name", "size", "plan", "again", "total", "times"]
theorem scplan_steps : FnScope Nplan_steps ["walk", "name", "size"] (defScope splan_steps) := ⟨rfl, rfl, rfl, by decide +kernel, rfl, by decide +kernel, by decide +kernel⟩

abbrev sagain_of : Stmt := topS 9
abbrev Nagain_of : List Str := ["plan", "thing"]
theorem scagain_of : FnScope Nagain_of ["plan"] (defScope sagain_of) := ⟨rfl, rfl, rfl, by decide +kernel, rfl, by decide +kernel, by decide +kernel⟩

abbrev slesser_size : Stmt := topS 10
abbrev Nlesser_size : List Str := ["size", "word"]
theorem sclesser_size : FnScope Nlesser_size ["size", "word"] (defScope slesser_size) := ⟨rfl, rfl, rfl, by decide +kernel, rfl, by decide +kernel, by decide +kernel⟩

abbrev send_value : Stmt := topS 11
abbrev Nend_value : List Str := ["end", "scope", "name", "number"]
theorem scend_value : FnScope Nend_value ["end", "scope"] (defScope send_value) := ⟨rfl, rfl, rfl, by decide +kernel, rfl, by decide +kernel, by decide +kernel⟩

abbrev sbody_steps : Stmt := topS 12
abbrev Nbody_steps : List Str := ["walk", "body", "scope", "total", "thing", "steps_of"]
theorem scbody_steps : FnScope Nbody_steps ["walk", "body", "scope"] (defScope sbody_steps) := ⟨rfl, rfl, rfl, by decide +kernel, rfl, by decide +kernel, by decide +kernel⟩

abbrev sstep_steps : Stmt := topS 13
abbrev Nstep_steps : List Str := ["walk", "thing", "scope"]
theorem scstep_steps : FnScope Nstep_steps ["walk", "thing", "scope"] (defScope sstep_steps) := ⟨rfl, rfl, rfl, by decide +kernel, rfl, by decide +kernel, by decide +kernel⟩

abbrev sfor_steps : Stmt := topS 14
abbrev Nfor_steps : List Str := ["walk", "thing", "scope", "total", "number", "greatest", "name", "first", "last", "body"]
theorem scfor_steps : FnScope Nfor_steps ["walk", "thing", "scope"] (defScope sfor_steps) := ⟨rfl, rfl, rfl, by decide +kernel, rfl, by decide +kernel, by decide +kernel⟩

abbrev sif_steps : Stmt := topS 15
abbrev Nif_steps : List Str := ["walk", "thing", "scope", "holds", "lesser", "greater", "body", "other"]
theorem scif_steps : FnScope Nif_steps ["walk", "thing", "scope"] (defScope sif_steps) := ⟨rfl, rfl, rfl, by decide +kernel, rfl, by decide +kernel, by decide +kernel⟩

abbrev sdouble_steps : Stmt := topS 16
abbrev Ndouble_steps : List Str := ["walk", "thing", "scope", "total", "turn"]
theorem scdouble_steps : FnScope Ndouble_steps ["walk", "thing", "scope"] (defScope sdouble_steps) := ⟨rfl, rfl, rfl, by decide +kernel, rfl, by decide +kernel, by decide +kernel⟩

abbrev scall_steps : Stmt := topS 17
abbrev Ncall_steps : List Str := ["walk", "thing", "scope"]
theorem sccall_steps : FnScope Ncall_steps ["walk", "thing", "scope"] (defScope scall_steps) := ⟨rfl, rfl, rfl, by decide +kernel, rfl, by decide +kernel, by decide +kernel⟩

abbrev sl_begin : Stmt := topS 20
abbrev Nl_begin : List Str := ["_law_script"]
theorem scl_begin : FnScope Nl_begin ["_law_script"] (defScope sl_begin) := ⟨rfl, rfl, rfl, by decide +kernel, rfl, by decide +kernel, by decide +kernel⟩

abbrev sl_take : Stmt := topS 21
abbrev Nl_take : List Str := ["_law_draw", "_law_sides", "_law_cell", "_law_got"]
theorem scl_take : FnScope Nl_take ["_law_draw", "_law_sides"] (defScope sl_take) := ⟨rfl, rfl, rfl, by decide +kernel, rfl, by decide +kernel, by decide +kernel⟩

abbrev sl_pick : Stmt := topS 22
abbrev Nl_pick : List Str := ["_law_draw", "_law_row"]
theorem scl_pick : FnScope Nl_pick ["_law_draw", "_law_row"] (defScope sl_pick) := ⟨rfl, rfl, rfl, by decide +kernel, rfl, by decide +kernel, by decide +kernel⟩

abbrev sl_kept_words : Stmt := topS 23
abbrev Nl_kept_words : List Str := []
theorem scl_kept_words : FnScope Nl_kept_words [] (defScope sl_kept_words) := ⟨rfl, rfl, rfl, by decide +kernel, rfl, by decide +kernel, by decide +kernel⟩

abbrev sl_fresh : Stmt := topS 24
abbrev Nl_fresh : List Str := ["_law_draw", "_law_taken", "_law_size", "_law_name", "_law_spare", "_law_sign", "_law_k", "_law_one"]
theorem scl_fresh : FnScope Nl_fresh ["_law_draw", "_law_taken"] (defScope sl_fresh) := ⟨rfl, rfl, rfl, by decide +kernel, rfl, by decide +kernel, by decide +kernel⟩

abbrev sl_way : Stmt := topS 25
abbrev Nl_way : List Str := ["_law_plan", "_law_found", "_law_thing"]
theorem scl_way : FnScope Nl_way ["_law_plan"] (defScope sl_way) := ⟨rfl, rfl, rfl, by decide +kernel, rfl, by decide +kernel, by decide +kernel⟩

abbrev sl_plain : Stmt := topS 26
abbrev Nl_plain : List Str := ["_law_plan", "_law_again"]
theorem scl_plain : FnScope Nl_plain ["_law_plan"] (defScope sl_plain) := ⟨rfl, rfl, rfl, by decide +kernel, rfl, by decide +kernel, by decide +kernel⟩

abbrev sl_bodies : Stmt := topS 27
abbrev Nl_bodies : List Str := ["_law_thing"]
theorem scl_bodies : FnScope Nl_bodies ["_law_thing"] (defScope sl_bodies) := ⟨rfl, rfl, rfl, by decide +kernel, rfl, by decide +kernel, by decide +kernel⟩

abbrev sl_every : Stmt := topS 28
abbrev Nl_every : List Str := ["_law_plan", "_law_found", "_law_thing", "_law_body"]
theorem scl_every : FnScope Nl_every ["_law_plan"] (defScope sl_every) := ⟨rfl, rfl, rfl, by decide +kernel, rfl, by decide +kernel, by decide +kernel⟩

abbrev sl_figured : Stmt := topS 29
abbrev Nl_figured : List Str := ["_law_plan", "_law_plans", "_law_thing"]
theorem scl_figured : FnScope Nl_figured ["_law_plan", "_law_plans"] (defScope sl_figured) := ⟨rfl, rfl, rfl, by decide +kernel, rfl, by decide +kernel, by decide +kernel⟩

abbrev sl_weight_in : Stmt := topS 30
abbrev Nl_weight_in : List Str := ["_law_plan", "_law_plans", "_law_found", "_law_thing", "_law_here", "_law_body"]
theorem scl_weight_in : FnScope Nl_weight_in ["_law_plan", "_law_plans"] (defScope sl_weight_in) := ⟨rfl, rfl, rfl, by decide +kernel, rfl, by decide +kernel, by decide +kernel⟩

abbrev sl_weight : Stmt := topS 31
abbrev Nl_weight : List Str := ["_law_plan", "_law_plans", "_law_again"]
theorem scl_weight : FnScope Nl_weight ["_law_plan", "_law_plans"] (defScope sl_weight) := ⟨rfl, rfl, rfl, by decide +kernel, rfl, by decide +kernel, by decide +kernel⟩

abbrev sl_calls : Stmt := topS 32
abbrev Nl_calls : List Str := ["_law_plan", "_law_found", "_law_thing"]
theorem scl_calls : FnScope Nl_calls ["_law_plan"] (defScope sl_calls) := ⟨rfl, rfl, rfl, by decide +kernel, rfl, by decide +kernel, by decide +kernel⟩

abbrev sl_chain : Stmt := topS 33
abbrev Nl_chain : List Str := ["_law_plan", "_law_plans", "_law_name"]
theorem scl_chain : FnScope Nl_chain ["_law_plan", "_law_plans"] (defScope sl_chain) := ⟨rfl, rfl, rfl, by decide +kernel, rfl, by decide +kernel, by decide +kernel⟩

abbrev sl_some_end : Stmt := topS 34
abbrev Nl_some_end : List Str := ["_law_draw", "_law_scope", "_law_wide", "_law_more"]
theorem scl_some_end : FnScope Nl_some_end ["_law_draw", "_law_scope", "_law_wide"] (defScope sl_some_end) := ⟨rfl, rfl, rfl, by decide +kernel, rfl, by decide +kernel, by decide +kernel⟩

abbrev sl_leaf : Stmt := topS 35
abbrev Nl_leaf : List Str := ["_law_draw", "_law_kit", "_law_scope", "_law_deep", "_law_fit", "_law_name", "_law_end"]
theorem scl_leaf : FnScope Nl_leaf ["_law_draw", "_law_kit", "_law_scope", "_law_deep"] (defScope sl_leaf) := ⟨rfl, rfl, rfl, by decide +kernel, rfl, by decide +kernel, by decide +kernel⟩

abbrev sl_drawn_thing : Stmt := topS 36
abbrev Nl_drawn_thing : List Str := ["_law_draw", "_law_kit", "_law_scope", "_law_deep", "_law_fork", "_law_body", "_law_rest", "_law_one", "_law_other", "_law_name"]
theorem scl_drawn_thing : FnScope Nl_drawn_thing ["_law_draw", "_law_kit", "_law_scope", "_law_deep"] (defScope sl_drawn_thing) := ⟨rfl, rfl, rfl, by decide +kernel, rfl, by decide +kernel, by decide +kernel⟩

abbrev sl_drawn_body : Stmt := topS 37
abbrev Nl_drawn_body : List Str := ["_law_draw", "_law_kit", "_law_scope", "_law_deep", "_law_found", "_law_k"]
theorem scl_drawn_body : FnScope Nl_drawn_body ["_law_draw", "_law_kit", "_law_scope", "_law_deep"] (defScope sl_drawn_body) := ⟨rfl, rfl, rfl, by decide +kernel, rfl, by decide +kernel, by decide +kernel⟩

abbrev sl_more_plan : Stmt := topS 38
abbrev Nl_more_plan : List Str := ["_law_draw", "_law_plans", "_law_room", "_law_figures", "_law_wide", "_law_known", "_law_name", "_law_plan"]
theorem scl_more_plan : FnScope Nl_more_plan ["_law_draw", "_law_plans", "_law_room", "_law_figures", "_law_wide"] (defScope sl_more_plan) := ⟨rfl, rfl, rfl, by decide +kernel, rfl, by decide +kernel, by decide +kernel⟩

abbrev sl_drawn_plans : Stmt := topS 39
abbrev Nl_drawn_plans : List Str := ["_law_draw", "_law_upto", "_law_figures", "_law_wide", "_law_plans", "_law_k", "_law_name"]
theorem scl_drawn_plans : FnScope Nl_drawn_plans ["_law_draw", "_law_upto", "_law_figures", "_law_wide"] (defScope sl_drawn_plans) := ⟨rfl, rfl, rfl, by decide +kernel, rfl, by decide +kernel, by decide +kernel⟩

abbrev sl_with_way : Stmt := topS 40
abbrev Nl_with_way : List Str := ["_law_draw", "_law_plans", "_law_name", "_law_plan", "_law_ways", "_law_at"]
theorem scl_with_way : FnScope Nl_with_way ["_law_draw", "_law_plans"] (defScope sl_with_way) := ⟨rfl, rfl, rfl, by decide +kernel, rfl, by decide +kernel, by decide +kernel⟩

abbrev sl_comes : Stmt := topS 41
abbrev Nl_comes : List Str := ["_law_end", "_law_names"]
theorem scl_comes : FnScope Nl_comes ["_law_end", "_law_names"] (defScope sl_comes) := ⟨rfl, rfl, rfl, by decide +kernel, rfl, by decide +kernel, by decide +kernel⟩

abbrev sl_walk_thing : Stmt := topS 42
abbrev Nl_walk_thing : List Str := ["_law_plans", "_law_thing", "_law_names", "_law_left", "_law_word", "_law_found", "_law_number", "_law_low", "_law_high", "_law_inner"]
theorem scl_walk_thing : FnScope Nl_walk_thing ["_law_plans", "_law_thing", "_law_names", "_law_left"] (defScope sl_walk_thing) := ⟨rfl, rfl, rfl, by decide +kernel, rfl, by decide +kernel, by decide +kernel⟩

abbrev sl_walk_body : Stmt := topS 43
abbrev Nl_walk_body : List Str := ["_law_plans", "_law_body", "_law_names", "_law_left", "_law_found", "_law_thing"]
theorem scl_walk_body : FnScope Nl_walk_body ["_law_plans", "_law_body", "_law_names", "_law_left"] (defScope sl_walk_body) := ⟨rfl, rfl, rfl, by decide +kernel, rfl, by decide +kernel, by decide +kernel⟩

abbrev sl_walk : Stmt := topS 44
abbrev Nl_walk : List Str := ["_law_plans", "_law_name", "_law_size", "_law_left", "_law_again", "_law_found", "_law_many"]
theorem scl_walk : FnScope Nl_walk ["_law_plans", "_law_name", "_law_size", "_law_left"] (defScope sl_walk) := ⟨rfl, rfl, rfl, by decide +kernel, rfl, by decide +kernel, by decide +kernel⟩

abbrev sl_same : Stmt := topS 45
abbrev Nl_same : List Str := ["_law_found", "_law_due", "_law_one", "_law_other"]
theorem scl_same : FnScope Nl_same ["_law_found", "_law_due"] (defScope sl_same) := ⟨rfl, rfl, rfl, by decide +kernel, rfl, by decide +kernel, by decide +kernel⟩

abbrev slaw : Stmt := topS 46
abbrev Nlaw : List Str := ["_law_script", "_law_draw", "_law_plans", "_law_name", "_law_text", "_law_size", "_law_left", "_law_due", "_law_found"]
theorem sclaw : FnScope Nlaw ["_law_script"] (defScope slaw) := ⟨rfl, rfl, rfl, by decide +kernel, rfl, by decide +kernel, by decide +kernel⟩

structure Tops (w : World) (K : PySem.W.Frag) (mg : Str → Option Value) where
  CWalk : Addr
  clWalk : Cls K CWalk
  gWalk : mg "Walk" = some (.ref CWalk)
  naWalk_plans : NoAttr K CWalk "plans"
  naWalk_left : NoAttr K CWalk "left"
  fWalk___init__ : Addr
  dWalk___init__ : FuncData
  FWalk___init__ : Fun K "__init__" "Walk.__init__" sWalk___init__ fWalk___init__ dWalk___init__
  mkWalk : Mk K CWalk fWalk___init__
  fWalk_visit : Addr
  dWalk_visit : FuncData
  FWalk_visit : Fun K "visit" "Walk.visit" sWalk_visit fWalk_visit dWalk_visit
  mtWalk_visit : Meth K CWalk "visit" fWalk_visit
  fwalked : Addr
  dwalked : FuncData
  Fwalked : Fun K "walked" "walked" swalked fwalked dwalked
  gwalked : mg "walked" = some (.ref fwalked)
  Dwalked : FunD K "walked" "walked" (defArgs swalked) (defBody swalked) (defScope swalked) [] [("most", .int 10000)] fwalked dwalked
  fplan_steps : Addr
  dplan_steps : FuncData
  Fplan_steps : Fun K "plan_steps" "plan_steps" splan_steps fplan_steps dplan_steps
  gplan_steps : mg "plan_steps" = some (.ref fplan_steps)
  fagain_of : Addr
  dagain_of : FuncData
  Fagain_of : Fun K "again_of" "again_of" sagain_of fagain_of dagain_of
  gagain_of : mg "again_of" = some (.ref fagain_of)
  flesser_size : Addr
  dlesser_size : FuncData
  Flesser_size : Fun K "lesser_size" "lesser_size" slesser_size flesser_size dlesser_size
  glesser_size : mg "lesser_size" = some (.ref flesser_size)
  fend_value : Addr
  dend_value : FuncData
  Fend_value : Fun K "end_value" "end_value" send_value fend_value dend_value
  gend_value : mg "end_value" = some (.ref fend_value)
  fbody_steps : Addr
  dbody_steps : FuncData
  Fbody_steps : Fun K "body_steps" "body_steps" sbody_steps fbody_steps dbody_steps
  gbody_steps : mg "body_steps" = some (.ref fbody_steps)
  fstep_steps : Addr
  dstep_steps : FuncData
  Fstep_steps : Fun K "step_steps" "step_steps" sstep_steps fstep_steps dstep_steps
  gstep_steps : mg "step_steps" = some (.ref fstep_steps)
  ffor_steps : Addr
  dfor_steps : FuncData
  Ffor_steps : Fun K "for_steps" "for_steps" sfor_steps ffor_steps dfor_steps
  gfor_steps : mg "for_steps" = some (.ref ffor_steps)
  fif_steps : Addr
  dif_steps : FuncData
  Fif_steps : Fun K "if_steps" "if_steps" sif_steps fif_steps dif_steps
  gif_steps : mg "if_steps" = some (.ref fif_steps)
  fdouble_steps : Addr
  ddouble_steps : FuncData
  Fdouble_steps : Fun K "double_steps" "double_steps" sdouble_steps fdouble_steps ddouble_steps
  gdouble_steps : mg "double_steps" = some (.ref fdouble_steps)
  fcall_steps : Addr
  dcall_steps : FuncData
  Fcall_steps : Fun K "call_steps" "call_steps" scall_steps fcall_steps dcall_steps
  gcall_steps : mg "call_steps" = some (.ref fcall_steps)
  fl_begin : Addr
  dl_begin : FuncData
  Fl_begin : Fun K "_law_begin" "_law_begin" sl_begin fl_begin dl_begin
  gl_begin : mg "_law_begin" = some (.ref fl_begin)
  fl_take : Addr
  dl_take : FuncData
  Fl_take : Fun K "_law_take" "_law_take" sl_take fl_take dl_take
  gl_take : mg "_law_take" = some (.ref fl_take)
  fl_pick : Addr
  dl_pick : FuncData
  Fl_pick : Fun K "_law_pick" "_law_pick" sl_pick fl_pick dl_pick
  gl_pick : mg "_law_pick" = some (.ref fl_pick)
  fl_kept_words : Addr
  dl_kept_words : FuncData
  Fl_kept_words : Fun K "_law_kept_words" "_law_kept_words" sl_kept_words fl_kept_words dl_kept_words
  gl_kept_words : mg "_law_kept_words" = some (.ref fl_kept_words)
  fl_fresh : Addr
  dl_fresh : FuncData
  Fl_fresh : Fun K "_law_fresh" "_law_fresh" sl_fresh fl_fresh dl_fresh
  gl_fresh : mg "_law_fresh" = some (.ref fl_fresh)
  fl_way : Addr
  dl_way : FuncData
  Fl_way : Fun K "_law_way" "_law_way" sl_way fl_way dl_way
  gl_way : mg "_law_way" = some (.ref fl_way)
  fl_plain : Addr
  dl_plain : FuncData
  Fl_plain : Fun K "_law_plain" "_law_plain" sl_plain fl_plain dl_plain
  gl_plain : mg "_law_plain" = some (.ref fl_plain)
  fl_bodies : Addr
  dl_bodies : FuncData
  Fl_bodies : Fun K "_law_bodies" "_law_bodies" sl_bodies fl_bodies dl_bodies
  gl_bodies : mg "_law_bodies" = some (.ref fl_bodies)
  fl_every : Addr
  dl_every : FuncData
  Fl_every : Fun K "_law_every" "_law_every" sl_every fl_every dl_every
  gl_every : mg "_law_every" = some (.ref fl_every)
  fl_figured : Addr
  dl_figured : FuncData
  Fl_figured : Fun K "_law_figured" "_law_figured" sl_figured fl_figured dl_figured
  gl_figured : mg "_law_figured" = some (.ref fl_figured)
  fl_weight_in : Addr
  dl_weight_in : FuncData
  Fl_weight_in : Fun K "_law_weight_in" "_law_weight_in" sl_weight_in fl_weight_in dl_weight_in
  gl_weight_in : mg "_law_weight_in" = some (.ref fl_weight_in)
  fl_weight : Addr
  dl_weight : FuncData
  Fl_weight : Fun K "_law_weight" "_law_weight" sl_weight fl_weight dl_weight
  gl_weight : mg "_law_weight" = some (.ref fl_weight)
  fl_calls : Addr
  dl_calls : FuncData
  Fl_calls : Fun K "_law_calls" "_law_calls" sl_calls fl_calls dl_calls
  gl_calls : mg "_law_calls" = some (.ref fl_calls)
  fl_chain : Addr
  dl_chain : FuncData
  Fl_chain : Fun K "_law_chain" "_law_chain" sl_chain fl_chain dl_chain
  gl_chain : mg "_law_chain" = some (.ref fl_chain)
  fl_some_end : Addr
  dl_some_end : FuncData
  Fl_some_end : Fun K "_law_some_end" "_law_some_end" sl_some_end fl_some_end dl_some_end
  gl_some_end : mg "_law_some_end" = some (.ref fl_some_end)
  fl_leaf : Addr
  dl_leaf : FuncData
  Fl_leaf : Fun K "_law_leaf" "_law_leaf" sl_leaf fl_leaf dl_leaf
  gl_leaf : mg "_law_leaf" = some (.ref fl_leaf)
  fl_drawn_thing : Addr
  dl_drawn_thing : FuncData
  Fl_drawn_thing : Fun K "_law_drawn_thing" "_law_drawn_thing" sl_drawn_thing fl_drawn_thing dl_drawn_thing
  gl_drawn_thing : mg "_law_drawn_thing" = some (.ref fl_drawn_thing)
  fl_drawn_body : Addr
  dl_drawn_body : FuncData
  Fl_drawn_body : Fun K "_law_drawn_body" "_law_drawn_body" sl_drawn_body fl_drawn_body dl_drawn_body
  gl_drawn_body : mg "_law_drawn_body" = some (.ref fl_drawn_body)
  fl_more_plan : Addr
  dl_more_plan : FuncData
  Fl_more_plan : Fun K "_law_more_plan" "_law_more_plan" sl_more_plan fl_more_plan dl_more_plan
  gl_more_plan : mg "_law_more_plan" = some (.ref fl_more_plan)
  fl_drawn_plans : Addr
  dl_drawn_plans : FuncData
  Fl_drawn_plans : Fun K "_law_drawn_plans" "_law_drawn_plans" sl_drawn_plans fl_drawn_plans dl_drawn_plans
  gl_drawn_plans : mg "_law_drawn_plans" = some (.ref fl_drawn_plans)
  fl_with_way : Addr
  dl_with_way : FuncData
  Fl_with_way : Fun K "_law_with_way" "_law_with_way" sl_with_way fl_with_way dl_with_way
  gl_with_way : mg "_law_with_way" = some (.ref fl_with_way)
  fl_comes : Addr
  dl_comes : FuncData
  Fl_comes : Fun K "_law_comes" "_law_comes" sl_comes fl_comes dl_comes
  gl_comes : mg "_law_comes" = some (.ref fl_comes)
  fl_walk_thing : Addr
  dl_walk_thing : FuncData
  Fl_walk_thing : Fun K "_law_walk_thing" "_law_walk_thing" sl_walk_thing fl_walk_thing dl_walk_thing
  gl_walk_thing : mg "_law_walk_thing" = some (.ref fl_walk_thing)
  fl_walk_body : Addr
  dl_walk_body : FuncData
  Fl_walk_body : Fun K "_law_walk_body" "_law_walk_body" sl_walk_body fl_walk_body dl_walk_body
  gl_walk_body : mg "_law_walk_body" = some (.ref fl_walk_body)
  fl_walk : Addr
  dl_walk : FuncData
  Fl_walk : Fun K "_law_walk" "_law_walk" sl_walk fl_walk dl_walk
  gl_walk : mg "_law_walk" = some (.ref fl_walk)
  fl_same : Addr
  dl_same : FuncData
  Fl_same : Fun K "_law_same" "_law_same" sl_same fl_same dl_same
  gl_same : mg "_law_same" = some (.ref fl_same)
  flaw : Addr
  dlaw : FuncData
  Flaw : Fun K "law" "law" slaw flaw dlaw
  glaw : mg "law" = some (.ref flaw)
  mabs : mg "abs" = none
  mall : mg "all" = none
  mbool : mg "bool" = none
  mdict : mg "dict" = none
  mint : mg "int" = none
  misinstance : mg "isinstance" = none
  mlen : mg "len" = none
  mlist : mg "list" = none
  mmax : mg "max" = none
  mrange : mg "range" = none
  mrepr : mg "repr" = none
  msorted : mg "sorted" = none
  mstr : mg "str" = none
  mtuple : mg "tuple" = none
  mzip : mg "zip" = none
  cMOST_VISITS : ∃ u, mg "MOST_VISITS" = some u ∧ RelV (.int 10000) u
  aSTEPS : Addr
  cSTEPS : ∃ u, mg "STEPS" = some u ∧ RelV (.ref aSTEPS) u
  eSTEPS : Array DictEntry
  nSTEPS : Nat
  DSTEPS : KDict K w aSTEPS eSTEPS nSTEPS
  kSTEPS_step : KDct K w aSTEPS "step" (.ref fstep_steps)
  sSTEPS_step : PySem.W.nsIn K aSTEPS "step" = some (some (.ref fstep_steps))
  kSTEPS_for : KDct K w aSTEPS "for" (.ref ffor_steps)
  sSTEPS_for : PySem.W.nsIn K aSTEPS "for" = some (some (.ref ffor_steps))
  kSTEPS_if : KDct K w aSTEPS "if" (.ref fif_steps)
  sSTEPS_if : PySem.W.nsIn K aSTEPS "if" = some (some (.ref fif_steps))
  kSTEPS_double : KDct K w aSTEPS "double" (.ref fdouble_steps)
  sSTEPS_double : PySem.W.nsIn K aSTEPS "double" = some (some (.ref fdouble_steps))
  kSTEPS_call : KDct K w aSTEPS "call" (.ref fcall_steps)
  sSTEPS_call : PySem.W.nsIn K aSTEPS "call" = some (some (.ref fcall_steps))
theorem Tops.bWalk___init__ {w : World} {K : PySem.W.Frag} {mg : Str → Option Value} (T : Tops w K mg) : Binds K T.dWalk___init__ ["self", "plans", "most"] [] := T.FWalk___init__.binds (ps := ["self", "plans", "most"]) fun _ _ _ _ _ _ us hl => match us, hl with | [_, _, _], _ => rfl
theorem Tops.bWalk_visit {w : World} {K : PySem.W.Frag} {mg : Str → Option Value} (T : Tops w K mg) : Binds K T.dWalk_visit ["self"] [] := T.FWalk_visit.binds (ps := ["self"]) fun _ _ _ _ _ _ us hl => match us, hl with | [_], _ => rfl
theorem Tops.bplan_steps {w : World} {K : PySem.W.Frag} {mg : Str → Option Value} (T : Tops w K mg) : Binds K T.dplan_steps ["walk", "name", "size"] [] := T.Fplan_steps.binds (ps := ["walk", "name", "size"]) fun _ _ _ _ _ _ us hl => match us, hl with | [_, _, _], _ => rfl
theorem Tops.bagain_of {w : World} {K : PySem.W.Frag} {mg : Str → Option Value} (T : Tops w K mg) : Binds K T.dagain_of ["plan"] [] := T.Fagain_of.binds (ps := ["plan"]) fun _ _ _ _ _ _ us hl => match us, hl with | [_], _ => rfl
theorem Tops.blesser_size {w : World} {K : PySem.W.Frag} {mg : Str → Option Value} (T : Tops w K mg) : Binds K T.dlesser_size ["size", "word"] [] := T.Flesser_size.binds (ps := ["size", "word"]) fun _ _ _ _ _ _ us hl => match us, hl with | [_, _], _ => rfl
theorem Tops.bend_value {w : World} {K : PySem.W.Frag} {mg : Str → Option Value} (T : Tops w K mg) : Binds K T.dend_value ["end", "scope"] [] := T.Fend_value.binds (ps := ["end", "scope"]) fun _ _ _ _ _ _ us hl => match us, hl with | [_, _], _ => rfl
theorem Tops.bbody_steps {w : World} {K : PySem.W.Frag} {mg : Str → Option Value} (T : Tops w K mg) : Binds K T.dbody_steps ["walk", "body", "scope"] [] := T.Fbody_steps.binds (ps := ["walk", "body", "scope"]) fun _ _ _ _ _ _ us hl => match us, hl with | [_, _, _], _ => rfl
theorem Tops.bstep_steps {w : World} {K : PySem.W.Frag} {mg : Str → Option Value} (T : Tops w K mg) : Binds K T.dstep_steps ["walk", "thing", "scope"] [] := T.Fstep_steps.binds (ps := ["walk", "thing", "scope"]) fun _ _ _ _ _ _ us hl => match us, hl with | [_, _, _], _ => rfl
theorem Tops.bfor_steps {w : World} {K : PySem.W.Frag} {mg : Str → Option Value} (T : Tops w K mg) : Binds K T.dfor_steps ["walk", "thing", "scope"] [] := T.Ffor_steps.binds (ps := ["walk", "thing", "scope"]) fun _ _ _ _ _ _ us hl => match us, hl with | [_, _, _], _ => rfl
theorem Tops.bif_steps {w : World} {K : PySem.W.Frag} {mg : Str → Option Value} (T : Tops w K mg) : Binds K T.dif_steps ["walk", "thing", "scope"] [] := T.Fif_steps.binds (ps := ["walk", "thing", "scope"]) fun _ _ _ _ _ _ us hl => match us, hl with | [_, _, _], _ => rfl
theorem Tops.bdouble_steps {w : World} {K : PySem.W.Frag} {mg : Str → Option Value} (T : Tops w K mg) : Binds K T.ddouble_steps ["walk", "thing", "scope"] [] := T.Fdouble_steps.binds (ps := ["walk", "thing", "scope"]) fun _ _ _ _ _ _ us hl => match us, hl with | [_, _, _], _ => rfl
theorem Tops.bcall_steps {w : World} {K : PySem.W.Frag} {mg : Str → Option Value} (T : Tops w K mg) : Binds K T.dcall_steps ["walk", "thing", "scope"] [] := T.Fcall_steps.binds (ps := ["walk", "thing", "scope"]) fun _ _ _ _ _ _ us hl => match us, hl with | [_, _, _], _ => rfl
theorem Tops.bl_begin {w : World} {K : PySem.W.Frag} {mg : Str → Option Value} (T : Tops w K mg) : Binds K T.dl_begin ["_law_script"] [] := T.Fl_begin.binds (ps := ["_law_script"]) fun _ _ _ _ _ _ us hl => match us, hl with | [_], _ => rfl
theorem Tops.bl_take {w : World} {K : PySem.W.Frag} {mg : Str → Option Value} (T : Tops w K mg) : Binds K T.dl_take ["_law_draw", "_law_sides"] [] := T.Fl_take.binds (ps := ["_law_draw", "_law_sides"]) fun _ _ _ _ _ _ us hl => match us, hl with | [_, _], _ => rfl
theorem Tops.bl_pick {w : World} {K : PySem.W.Frag} {mg : Str → Option Value} (T : Tops w K mg) : Binds K T.dl_pick ["_law_draw", "_law_row"] [] := T.Fl_pick.binds (ps := ["_law_draw", "_law_row"]) fun _ _ _ _ _ _ us hl => match us, hl with | [_, _], _ => rfl
theorem Tops.bl_kept_words {w : World} {K : PySem.W.Frag} {mg : Str → Option Value} (T : Tops w K mg) : Binds K T.dl_kept_words [] [] := T.Fl_kept_words.binds (ps := []) fun _ _ _ _ _ _ us hl => match us, hl with | [], _ => rfl
theorem Tops.bl_fresh {w : World} {K : PySem.W.Frag} {mg : Str → Option Value} (T : Tops w K mg) : Binds K T.dl_fresh ["_law_draw", "_law_taken"] [] := T.Fl_fresh.binds (ps := ["_law_draw", "_law_taken"]) fun _ _ _ _ _ _ us hl => match us, hl with | [_, _], _ => rfl
theorem Tops.bl_way {w : World} {K : PySem.W.Frag} {mg : Str → Option Value} (T : Tops w K mg) : Binds K T.dl_way ["_law_plan"] [] := T.Fl_way.binds (ps := ["_law_plan"]) fun _ _ _ _ _ _ us hl => match us, hl with | [_], _ => rfl
theorem Tops.bl_plain {w : World} {K : PySem.W.Frag} {mg : Str → Option Value} (T : Tops w K mg) : Binds K T.dl_plain ["_law_plan"] [] := T.Fl_plain.binds (ps := ["_law_plan"]) fun _ _ _ _ _ _ us hl => match us, hl with | [_], _ => rfl
theorem Tops.bl_bodies {w : World} {K : PySem.W.Frag} {mg : Str → Option Value} (T : Tops w K mg) : Binds K T.dl_bodies ["_law_thing"] [] := T.Fl_bodies.binds (ps := ["_law_thing"]) fun _ _ _ _ _ _ us hl => match us, hl with | [_], _ => rfl
theorem Tops.bl_every {w : World} {K : PySem.W.Frag} {mg : Str → Option Value} (T : Tops w K mg) : Binds K T.dl_every ["_law_plan"] [] := T.Fl_every.binds (ps := ["_law_plan"]) fun _ _ _ _ _ _ us hl => match us, hl with | [_], _ => rfl
theorem Tops.bl_figured {w : World} {K : PySem.W.Frag} {mg : Str → Option Value} (T : Tops w K mg) : Binds K T.dl_figured ["_law_plan", "_law_plans"] [] := T.Fl_figured.binds (ps := ["_law_plan", "_law_plans"]) fun _ _ _ _ _ _ us hl => match us, hl with | [_, _], _ => rfl
theorem Tops.bl_weight_in {w : World} {K : PySem.W.Frag} {mg : Str → Option Value} (T : Tops w K mg) : Binds K T.dl_weight_in ["_law_plan", "_law_plans"] [] := T.Fl_weight_in.binds (ps := ["_law_plan", "_law_plans"]) fun _ _ _ _ _ _ us hl => match us, hl with | [_, _], _ => rfl
theorem Tops.bl_weight {w : World} {K : PySem.W.Frag} {mg : Str → Option Value} (T : Tops w K mg) : Binds K T.dl_weight ["_law_plan", "_law_plans"] [] := T.Fl_weight.binds (ps := ["_law_plan", "_law_plans"]) fun _ _ _ _ _ _ us hl => match us, hl with | [_, _], _ => rfl
theorem Tops.bl_calls {w : World} {K : PySem.W.Frag} {mg : Str → Option Value} (T : Tops w K mg) : Binds K T.dl_calls ["_law_plan"] [] := T.Fl_calls.binds (ps := ["_law_plan"]) fun _ _ _ _ _ _ us hl => match us, hl with | [_], _ => rfl
theorem Tops.bl_chain {w : World} {K : PySem.W.Frag} {mg : Str → Option Value} (T : Tops w K mg) : Binds K T.dl_chain ["_law_plan", "_law_plans"] [] := T.Fl_chain.binds (ps := ["_law_plan", "_law_plans"]) fun _ _ _ _ _ _ us hl => match us, hl with | [_, _], _ => rfl
theorem Tops.bl_some_end {w : World} {K : PySem.W.Frag} {mg : Str → Option Value} (T : Tops w K mg) : Binds K T.dl_some_end ["_law_draw", "_law_scope", "_law_wide"] [] := T.Fl_some_end.binds (ps := ["_law_draw", "_law_scope", "_law_wide"]) fun _ _ _ _ _ _ us hl => match us, hl with | [_, _, _], _ => rfl
theorem Tops.bl_leaf {w : World} {K : PySem.W.Frag} {mg : Str → Option Value} (T : Tops w K mg) : Binds K T.dl_leaf ["_law_draw", "_law_kit", "_law_scope", "_law_deep"] [] := T.Fl_leaf.binds (ps := ["_law_draw", "_law_kit", "_law_scope", "_law_deep"]) fun _ _ _ _ _ _ us hl => match us, hl with | [_, _, _, _], _ => rfl
theorem Tops.bl_drawn_thing {w : World} {K : PySem.W.Frag} {mg : Str → Option Value} (T : Tops w K mg) : Binds K T.dl_drawn_thing ["_law_draw", "_law_kit", "_law_scope", "_law_deep"] [] := T.Fl_drawn_thing.binds (ps := ["_law_draw", "_law_kit", "_law_scope", "_law_deep"]) fun _ _ _ _ _ _ us hl => match us, hl with | [_, _, _, _], _ => rfl
theorem Tops.bl_drawn_body {w : World} {K : PySem.W.Frag} {mg : Str → Option Value} (T : Tops w K mg) : Binds K T.dl_drawn_body ["_law_draw", "_law_kit", "_law_scope", "_law_deep"] [] := T.Fl_drawn_body.binds (ps := ["_law_draw", "_law_kit", "_law_scope", "_law_deep"]) fun _ _ _ _ _ _ us hl => match us, hl with | [_, _, _, _], _ => rfl
theorem Tops.bl_more_plan {w : World} {K : PySem.W.Frag} {mg : Str → Option Value} (T : Tops w K mg) : Binds K T.dl_more_plan ["_law_draw", "_law_plans", "_law_room", "_law_figures", "_law_wide"] [] := T.Fl_more_plan.binds (ps := ["_law_draw", "_law_plans", "_law_room", "_law_figures", "_law_wide"]) fun _ _ _ _ _ _ us hl => match us, hl with | [_, _, _, _, _], _ => rfl
theorem Tops.bl_drawn_plans {w : World} {K : PySem.W.Frag} {mg : Str → Option Value} (T : Tops w K mg) : Binds K T.dl_drawn_plans ["_law_draw", "_law_upto", "_law_figures", "_law_wide"] [] := T.Fl_drawn_plans.binds (ps := ["_law_draw", "_law_upto", "_law_figures", "_law_wide"]) fun _ _ _ _ _ _ us hl => match us, hl with | [_, _, _, _], _ => rfl
theorem Tops.bl_with_way {w : World} {K : PySem.W.Frag} {mg : Str → Option Value} (T : Tops w K mg) : Binds K T.dl_with_way ["_law_draw", "_law_plans"] [] := T.Fl_with_way.binds (ps := ["_law_draw", "_law_plans"]) fun _ _ _ _ _ _ us hl => match us, hl with | [_, _], _ => rfl
theorem Tops.bl_comes {w : World} {K : PySem.W.Frag} {mg : Str → Option Value} (T : Tops w K mg) : Binds K T.dl_comes ["_law_end", "_law_names"] [] := T.Fl_comes.binds (ps := ["_law_end", "_law_names"]) fun _ _ _ _ _ _ us hl => match us, hl with | [_, _], _ => rfl
theorem Tops.bl_walk_thing {w : World} {K : PySem.W.Frag} {mg : Str → Option Value} (T : Tops w K mg) : Binds K T.dl_walk_thing ["_law_plans", "_law_thing", "_law_names", "_law_left"] [] := T.Fl_walk_thing.binds (ps := ["_law_plans", "_law_thing", "_law_names", "_law_left"]) fun _ _ _ _ _ _ us hl => match us, hl with | [_, _, _, _], _ => rfl
theorem Tops.bl_walk_body {w : World} {K : PySem.W.Frag} {mg : Str → Option Value} (T : Tops w K mg) : Binds K T.dl_walk_body ["_law_plans", "_law_body", "_law_names", "_law_left"] [] := T.Fl_walk_body.binds (ps := ["_law_plans", "_law_body", "_law_names", "_law_left"]) fun _ _ _ _ _ _ us hl => match us, hl with | [_, _, _, _], _ => rfl
theorem Tops.bl_walk {w : World} {K : PySem.W.Frag} {mg : Str → Option Value} (T : Tops w K mg) : Binds K T.dl_walk ["_law_plans", "_law_name", "_law_size", "_law_left"] [] := T.Fl_walk.binds (ps := ["_law_plans", "_law_name", "_law_size", "_law_left"]) fun _ _ _ _ _ _ us hl => match us, hl with | [_, _, _, _], _ => rfl
theorem Tops.bl_same {w : World} {K : PySem.W.Frag} {mg : Str → Option Value} (T : Tops w K mg) : Binds K T.dl_same ["_law_found", "_law_due"] [] := T.Fl_same.binds (ps := ["_law_found", "_law_due"]) fun _ _ _ _ _ _ us hl => match us, hl with | [_, _], _ => rfl
theorem Tops.blaw {w : World} {K : PySem.W.Frag} {mg : Str → Option Value} (T : Tops w K mg) : ∀ (s : Shared) (v : Value), BindsTo s T.dlaw ⟨[v], []⟩ [("_law_script", v)] := by
  obtain ⟨oc, od, kV, doc, pm, an, cdv, ct, osl, e, lk, hcd⟩ := T.Flaw.ex
  intro s v
  rw [e]
  exact .of_eq rfl
section
variable {P : Program} {w : World} {K : PySem.W.Frag} {mg : Str → Option Value} {base : Heap}
theorem ok_begin (T : Tops w K mg) : FnOk P w K mg base CX0 1 T.fl_begin T.dl_begin ["_law_script"] (spBegin K) := by
  refine T.Fl_begin.ok scl_begin (fun vs H Q E h => ?_) (fun cdv A outer s H vs Q E hr h => ?_)
  · obtain ⟨a, ns, rfl, _⟩ := h
    rfl
  obtain ⟨a, ns, rfl, hS, q⟩ := h
  refine ⟨_, (pss_one (ps_ret (pe_lst (pa_cons (pe_callTy call_list_of (by rfl) T.mlist (by decide +kernel) (pa_cons (pe_slice sl_list (pv 0) po_none (po_some pe_int)) pa_nil)) (pa_cons pe_int (pa_cons pe_int (pa_cons pe_int pa_nil))))))), ?_⟩
  refine ⟨_, rfl, 63, rfl, a, _, rfl, hS, fun p np => ?_⟩
  obtain ⟨ms, hms⟩ := cut_map ns none (some 63)
  refine ⟨p, _, rfl, .inl (SqL.of upd_same), fun L nL => ?_⟩
  refine ⟨(by show 4 ≤ sizeLine; decide), fun d nd => ?_⟩
  have nL0 : H L = none := (same_new np).free nL
  have s3 : Same H (upd (upd (upd H p (.lst (cutV (ns.map V.int) none (some 63)))) L (.lst (cutV (ns.map V.int) none (some 63)))) d (.lst [.ref L, .int 0, .int 0, .int 37])) :=
    ((same_new np).trans (same_new nL)).trans (same_new nd)
  have nd0 : H d = none := ((same_new np).trans (same_new nL)).free nd
  refine q d L _ s3 nd0 nL0 ⟨ms, 0, 0, 37, upd_same, ?_, by decide, by decide, by decide, by decide⟩
  rw [upd_ne (ne_of_none (upd_same) nd), upd_same, hms]
theorem ok_take (T : Tops w K mg) : FnOk P w K mg base CX0 1 T.fl_take T.dl_take ["_law_draw", "_law_sides"] spTake := by
  refine T.Fl_take.ok scl_take (fun vs H Q E h => ?_) (fun cdv A outer s H vs Q E hr h => ?_)
  · obtain ⟨d, L, k, rfl, _⟩ := h
    rfl
  obtain ⟨d, L, k, rfl, hD, k1, k2, q⟩ := h
  refine ⟨_, (pss_cut (ps_if (PW.pt (pw_and (pt_cmpR op_lt (pe_ix ix_list (pv 0) pe_int (fun _ _ => rfl)) (pv 1) (nomark _)) (pw_and1 (pt_cmpR op_lt (pe_ix ix_list (pv 0) pe_int (fun _ _ => rfl)) (pe_callB call_len_seq (by rfl) T.mlen PySem.boot_len (pa_cons (pe_ix ix_list (pv 0) pe_int (fun _ _ => rfl)) pa_nil)) (nomark _)))))
  (pss_cons (ps_set (i := 2) scl_take.nd rfl (Or.inl rfl) (pe_ix ix_list (pe_ix ix_list (pv 0) pe_int (fun _ _ => rfl)) (pe_ix ix_list (pv 0) pe_int (fun _ _ => rfl)) (fun _ _ => rfl)))
 (pss_cons (ps_asg (pe_op op_add (pe_ix ix_list (pv 0) pe_int (fun _ _ => rfl)) pe_int) (pg_sub (pv 0) pe_int set_list))
 (pss_cons (ps_asg pe_int (pg_sub (pv 0) pe_int set_list))
 (pss_one (ps_if (pt_cmpR op_ge (pe_callB call_abs (by rfl) T.mabs (by decide +kernel) (pa_cons (pv 2) pa_nil)) (pe_op op_pow pe_int pe_int) (nomark _))
  (pss_one (ps_asg (pe_callB call_abs (by rfl) T.mabs (by decide +kernel) (pa_cons (pv 2) pa_nil)) (pg_sub (pv 0) pe_int set_list)))
  (pss_one (ps_asg (pe_op op_mod (pe_op op_add (pe_op op_add (pe_op op_mul (pe_ix ix_list (pv 0) pe_int (fun _ _ => rfl)) pe_int) (pe_op op_mul (pe_op op_mod (pv 2) pe_int) pe_int)) pe_int) pe_int) (pg_sub (pv 0) pe_int set_list))))))))
  pss_nil)
 (pss_cons (ps_if (pt_cmpR op_ge (pe_ix ix_list (pv 0) pe_int (fun _ _ => rfl)) (pv 1) (nomark _))
  (pss_cons (ps_set (i := 3) scl_take.nd rfl (Or.inl rfl) (pe_op op_mod (pe_ix ix_list (pv 0) pe_int (fun _ _ => rfl)) (pv 1)))
 (pss_cons (ps_asg (pe_op op_fdiv (pe_ix ix_list (pv 0) pe_int (fun _ _ => rfl)) (pv 1)) (pg_sub (pv 0) pe_int set_list))
 (pss_one (ps_ret (pv 3)))))
  pss_nil)
 (pss_cons (ps_asg (pe_op op_mod (pe_op op_add (pe_op op_add (pe_op op_mul (pe_op op_mod (pe_op op_mul (pe_ix ix_list (pv 0) pe_int (fun _ _ => rfl)) (pe_ix ix_list (pv 0) pe_int (fun _ _ => rfl))) pe_int) pe_int) (pe_op op_mul (pe_ix ix_list (pv 0) pe_int (fun _ _ => rfl)) pe_int)) pe_int) pe_int) (pg_sub (pv 0) pe_int set_list))
 (pss_one (ps_ret (pe_op op_mod (pe_op op_add (pe_op op_fdiv (pe_ix ix_list (pv 0) pe_int (fun _ _ => rfl)) pe_int) (pe_op op_mul (pe_op op_mod (pe_ix ix_list (pv 0) pe_int (fun _ _ => rfl)) pe_int) pe_int)) (pv 1))))))), ?_⟩
  have hne := hD.ne
  refine ⟨fun σ' H' => (∃ x y, σ' = [some (.ref d), some (.int k), x, y]) ∧ Dr H' d L ∧ But d H H', ?_, ?_⟩
  · obtain ⟨ns, i, r, s, hd, hL, i0, r0, s0, s1⟩ := id hD
    refine ⟨_, rfl, d, _, 2, _, rfl, rfl, SqL.of hd, rfl, _, rfl, r, k, rfl, rfl, _, rfl, ite2 (fun c1 => ?_) (fun c1 => ?_)⟩
    · refine ⟨_, rfl, d, _, 1, _, rfl, rfl, SqL.of hd, rfl, _, rfl, d, _, 0, _, rfl, rfl, SqL.of hd, rfl, L, _, rfl, .inl (SqL.of hL), i, _, rfl, rfl, _, rfl, ite2 (fun c2 => ?_) (fun c2 => ?_)⟩
      · have c3 : i < ((ns.map V.int).length : Int) := of_decide_eq_true c2
        obtain ⟨v, hv, hm⟩ := atI_lt (xs := ns.map V.int) i0 c3
        obtain ⟨n, _, rfl⟩ := List.mem_map.mp hm
        refine ⟨_, rfl, d, _, 0, _, rfl, rfl, SqL.of hd, rfl, _, rfl, d, _, 1, _, rfl, rfl, SqL.of hd, rfl, L, _, i, _, rfl, rfl, SqL.of hL, hv, ?_⟩
        refine ⟨_, rfl, d, _, 1, _, rfl, rfl, SqL.of hd, rfl, i, 1, rfl, rfl, _, rfl, d, _, 1, 1, rfl, rfl, hd, rfl, ?_⟩
        refine ⟨_, rfl, d, _, 2, 2, rfl, rfl, upd_same, rfl, ?_⟩
        rw [upd_upd]
        refine ⟨_, rfl, n, rfl, 10, 18, rfl, rfl, ⟨by decide, by decide, by decide⟩, _, _, rfl, rfl, _, rfl, ite2 (fun c4 => ?_) (fun c4 => ?_)⟩
        · refine ⟨_, rfl, n, rfl, _, rfl, d, _, 2, 2, rfl, rfl, upd_same, rfl, ?_⟩
          rw [upd_upd]
          exact ⟨⟨_, _, rfl⟩, dr_set hL hne (by omega) (by split <;> omega) s0 s1, but_upd⟩
        · refine ⟨_, rfl, d, _, 3, _, rfl, rfl, SqL.of upd_same, rfl, s, 48271, rfl, rfl, .inr ⟨by decide, by decide⟩, _, rfl, n, 2147483629, rfl, rfl, (show (0 : Int) < 2147483629 by decide), _, 69621, rfl, rfl, .inr ⟨by decide, by decide⟩, _, _, rfl, rfl, _, 12345, rfl, rfl, _, 2147483647, rfl, rfl, (show (0 : Int) < 2147483647 by decide), _, rfl, d, _, 3, 3, rfl, rfl, upd_same, rfl, ?_⟩
          rw [upd_upd]
          have z := mod_lt (a := s * 48271 + n % 2147483629 * 69621 + 12345) (k := 2147483647) (by decide)
          exact ⟨⟨_, _, rfl⟩, dr_set hL hne (by omega) (Int.le_refl 0) z.1 z.2, but_upd⟩
      · exact ⟨⟨_, _, rfl⟩, hD, But.refl d H⟩
    · exact ⟨⟨_, _, rfl⟩, hD, But.refl d H⟩
  · rintro σ' H' ⟨⟨x, y, rfl⟩, hD', hB⟩
    obtain ⟨ns, i, r, s, hd, hL, i0, r0, s0, s1⟩ := id hD'
    refine ⟨_, rfl, d, _, 2, _, rfl, rfl, SqL.of hd, rfl, _, rfl, r, k, rfl, rfl, _, rfl, ite2 (fun c1 => ?_) (fun c1 => ?_)⟩
    · refine ⟨_, rfl, d, _, 2, _, rfl, rfl, SqL.of hd, rfl, _, rfl, r, k, rfl, rfl, (show (0 : Int) < k by omega), ?_⟩
      refine ⟨_, rfl, d, _, 2, _, rfl, rfl, SqL.of hd, rfl, _, rfl, r, k, rfl, rfl, ⟨by omega, k2⟩, _, rfl, d, _, 2, 2, rfl, rfl, hd, rfl, ?_⟩
      have z := mod_lt (a := r) k1
      refine ⟨_, rfl, q _ _ z.1 z.2 (dr_set hL hne i0 (Int.ediv_nonneg r0 (by omega)) s0 s1) (hB.trans but_upd)⟩
    · refine ⟨_, rfl, d, _, 3, _, rfl, rfl, SqL.of hd, rfl, _, rfl, d, _, 3, _, rfl, rfl, SqL.of hd, rfl, s, s, rfl, rfl, .inl ⟨by omega, by omega⟩, _, 2147483629, rfl, rfl, (show (0 : Int) < 2147483629 by decide), _, 5, rfl, rfl, .inr ⟨by decide, by decide⟩,
        _, rfl, d, _, 3, _, rfl, rfl, SqL.of hd, rfl, s, 16811, rfl, rfl, .inr ⟨by decide, by decide⟩, _, _, rfl, rfl, _, 2531011, rfl, rfl, _, 2147483647, rfl, rfl, (show (0 : Int) < 2147483647 by decide), _, rfl, d, _, 3, 3, rfl, rfl, hd, rfl, ?_⟩
      have z := mod_lt (a := s * s % 2147483629 * 5 + s * 16811 + 2531011) (k := 2147483647) (by decide)
      refine ⟨_, rfl, d, _, 3, _, rfl, rfl, SqL.of upd_same, rfl, _, 61, rfl, rfl, ⟨by decide, by decide⟩, _, rfl, d, _, 3, _, rfl, rfl, SqL.of upd_same, rfl, _, 8191, rfl, rfl, (show (0 : Int) < 8191 by decide), _, 31, rfl, rfl, .inr ⟨by decide, by decide⟩, _, _, rfl, rfl, _, rfl, _, k, rfl, rfl, (show (0 : Int) < k by omega), ?_⟩
      exact q _ _ (mod_lt k1).1 (mod_lt k1).2 (dr_set hL hne i0 r0 z.1 z.2) (hB.trans but_upd)
theorem ok_pick (T : Tops w K mg) : FnOk P w K mg base CX0 2 T.fl_pick T.dl_pick ["_law_draw", "_law_row"] (spPick K) := by
  have Gl_take : FnOk P w K mg base CX0 1 T.fl_take T.dl_take ["_law_draw", "_law_sides"] spTake := ok_take T
  refine T.Fl_pick.ok scl_pick (fun vs H Q E h => ?_) (fun cdv A outer s H vs Q E hr h => ?_)
  · obtain ⟨d, L, x, n, rfl, _⟩ := h
    rfl
  obtain ⟨d, L, x, n, rfl, hD, n0, n1, q⟩ := h
  refine ⟨_, (pss_one (ps_ret (pe_ix ix_seq (pv 1) (pe_call Gl_take (hr.mono (by omega)) (by rfl) T.gl_take T.Fl_take.kp T.bl_take .nil pass0 (pa_cons (pv 0) (pa_cons (pe_callB call_len (by rfl) T.mlen PySem.boot_len (pa_cons (pv 1) pa_nil)) pa_nil))) (fun _ _ => rfl)))), ?_⟩
  rcases q with ⟨z, rfl, rfl, q⟩ | ⟨a, xs, rfl, na, hS, rfl, q⟩
  · refine ⟨_, rfl, _, rfl, _, rfl, .str z, z.length, rfl, ⟨sz (by omega), rfl⟩, d, L, (z.length : Int), rfl, hD, by omega, by omega, fun g H' g0 g1 hD' hB => ?_⟩
    have e := len_tl z
    obtain ⟨c, hc, hm⟩ := atI_lt (xs := tl z) g0 (by omega)
    exact .inr (.inr ⟨z, g, c, rfl, rfl, sz (by omega), hc, q c H' hm hD' hB⟩)
  · refine ⟨_, rfl, _, rfl, _, rfl, .ref a, xs.length, rfl, .inl ⟨xs, hS, rfl⟩, d, L, (xs.length : Int), rfl, hD, by omega, by omega, fun g H' g0 g1 hD' hB => ?_⟩
    obtain ⟨v, hv, hm⟩ := atI_lt (xs := xs) g0 (by omega)
    exact .inl ⟨a, xs, g, v, rfl, rfl, SqL.but hS hB na, hv, q v H' hm hD' hB⟩
theorem ok_kept (T : Tops w K mg) : FnOk P w K mg base CX0 1 T.fl_kept_words T.dl_kept_words [] spKept := by
  refine T.Fl_kept_words.ok scl_kept_words (fun vs H Q E h => ?_) (fun cdv A outer s H vs Q E hr h => ?_)
  · obtain ⟨rfl, _⟩ := h
    rfl
  obtain ⟨rfl, q⟩ := h
  refine ⟨_, (pss_one (ps_ret (pe_split pe_str pe_str))), ?_⟩
  refine ⟨⟨_, rfl⟩, _, _, rfl, rfl, by decide +kernel, by decide +kernel, fun p np => ?_⟩
  refine q p _ np ?_
  rw [kept_split]
end
end K08

set_option Elab.async false
set_option linter.all false
set_option maxRecDepth 100000
set_option maxHeartbeats 4000000
namespace K08
open PySem PySem.Spec PyProof.Rows L2 OG
open C8 (pss_cut pe_gc)

section
variable {P : Program} {w : World} {K : PySem.W.Frag} {mg : Str → Option Value} {base : Heap}
theorem plain_of {K : PySem.W.Frag} {v : V} (h : flatV v = true) (hn : v ≠ .non) : ∃ (t : String) (b1 b2 b3 : Bool), (∀ H', TyX K H' v (.type t)) ∧ kitB t "list" = some false ∧ kitB t "tuple" = some false ∧ kitB t "bool" = some b1 ∧ kitB t "int" = some b2 ∧ kitB t "str" = some b3 ∧ scal v v = true := by
  cases v with
  | non => exact absurd rfl hn
  | bl b => exact ⟨"bool", true, true, false, fun _ => .base (.bl b), by decide +kernel, by decide +kernel, by decide +kernel, by decide +kernel, by decide +kernel, rfl⟩
  | int i => exact ⟨"int", false, true, false, fun _ => .base (.int i), by decide +kernel, by decide +kernel, by decide +kernel, by decide +kernel, by decide +kernel, rfl⟩
  | str z => exact ⟨"str", false, false, true, fun _ => .base (.str z), by decide +kernel, by decide +kernel, by decide +kernel, by decide +kernel, by decide +kernel, rfl⟩
  | byt _ => cases h
  | flt _ => cases h
  | ref _ => cases h
  | ty _ => cases h
theorem ok_same1 (T : Tops w K mg) (n : Nat) (Gl_same : FnOk P w K mg base CX0 n T.fl_same T.dl_same ["_law_found", "_law_due"] (prevS n)) : FnOk P w K mg base CX0 (n + 1) T.fl_same T.dl_same ["_law_found", "_law_due"] (spSame n) := by
  refine T.Fl_same.ok (k := n) scl_same (fun vs H Q E h => ?_) (fun cdv A outer s H vs Q E hr h => ?_)
  · obtain ⟨v, w, rfl, _⟩ := h
    rfl
  obtain ⟨v, w, rfl, hE, q⟩ := h
  refine ⟨_, (pss_cons (ps_if (pt_val (pe_callB call_isiT (by rfl) T.misinstance (by decide +kernel) (pa_cons (pv 1) (pa_cons (pe_tup (pa_cons (pe_bltn (v := .ty "list") (by rfl) T.mlist (by decide +kernel) rfl) (pa_cons (pe_bltn (v := .ty "tuple") (by rfl) T.mtuple (by decide +kernel) rfl) pa_nil))) pa_nil))))
  (pss_cons (ps_if (PW.pt (pw_or (pt_cmpR op_ne (pe_callB call_isi (by rfl) T.misinstance (by decide +kernel) (pa_cons (pv 0) (pa_cons (pe_bltn (v := .ty "list") (by rfl) T.mlist (by decide +kernel) rfl) pa_nil))) (pe_callB call_isi (by rfl) T.misinstance (by decide +kernel) (pa_cons (pv 1) (pa_cons (pe_bltn (v := .ty "list") (by rfl) T.mlist (by decide +kernel) rfl) pa_nil))) (nomark _)) (pw_or1 (pt_not (pt_val (pe_callB call_isiT (by rfl) T.misinstance (by decide +kernel) (pa_cons (pv 0) (pa_cons (pe_tup (pa_cons (pe_bltn (v := .ty "list") (by rfl) T.mlist (by decide +kernel) rfl) (pa_cons (pe_bltn (v := .ty "tuple") (by rfl) T.mtuple (by decide +kernel) rfl) pa_nil))) pa_nil))))))))
  (pss_one (ps_ret pe_bl))
  pss_nil)
 (pss_one (ps_ret (pe_and (pe_cmpR op_eq (pe_callB call_len (by rfl) T.mlen PySem.boot_len (pa_cons (pv 0) pa_nil)) (pe_callB call_len (by rfl) T.mlen PySem.boot_len (pa_cons (pv 1) pa_nil)) (nomark _)) (pe_one (pe_callB (cr_all rfl) (by rfl) T.mall (by decide +kernel) (pa_cons (pe_lc (own := [("_law_one", 2), ("_law_other", 3)]) rfl scl_same.nd (RZ.pi_zipA (by rfl) T.mzip (pa_cons (pv 0) (pa_cons (pv 1) pa_nil))) (blkOk_by (N := Nl_same) (sc := defScope sl_same) (by decide +kernel)) (fun _ _ _ _ _ => (pg_tupK (K := K) (n := 2) rfl rfl (pgs_cons (pg_name (i := 2) scl_same.nd rfl (Or.inl rfl)) (pgs_cons (pg_name (i := 3) scl_same.nd rfl (Or.inl rfl)) pgs_nil)))) (fun _ _ _ _ _ => pts_nil) (fun _ _ _ _ _ => (pe_call Gl_same (hr.mono (by omega)) (by rfl) T.gl_same T.Fl_same.kp T.bl_same .nil pass0 (pa_cons (pv 2) (pa_cons (pv 3) pa_nil))))) pa_nil)))))))
  pss_nil)
 (pss_cons (ps_if (pt_cmpR op_isN (pv 1) pe_non (nomark _))
  (pss_one (ps_ret (pe_cmpR op_isN (pv 0) pe_non (nomark _))))
  pss_nil)
 (pss_cons (ps_if (PW.pt (pw_or (pt_cmpR op_ne (pe_callB call_isi (by rfl) T.misinstance (by decide +kernel) (pa_cons (pv 0) (pa_cons (pe_bltn (v := .ty "bool") (by rfl) T.mbool (by decide +kernel) rfl) pa_nil))) (pe_callB call_isi (by rfl) T.misinstance (by decide +kernel) (pa_cons (pv 1) (pa_cons (pe_bltn (v := .ty "bool") (by rfl) T.mbool (by decide +kernel) rfl) pa_nil))) (nomark _)) (pw_or1 (pt_cmpR op_ne (pe_callB call_isi (by rfl) T.misinstance (by decide +kernel) (pa_cons (pv 0) (pa_cons (pe_bltn (v := .ty "int") (by rfl) T.mint (by decide +kernel) rfl) pa_nil))) (pe_callB call_isi (by rfl) T.misinstance (by decide +kernel) (pa_cons (pv 1) (pa_cons (pe_bltn (v := .ty "int") (by rfl) T.mint (by decide +kernel) rfl) pa_nil))) (nomark _)))))
  (pss_one (ps_ret pe_bl))
  pss_nil)
 (pss_one (ps_ret (pe_and (pe_cmpR op_eq (pe_callB call_isi (by rfl) T.misinstance (by decide +kernel) (pa_cons (pv 0) (pa_cons (pe_bltn (v := .ty "str") (by rfl) T.mstr (by decide +kernel) rfl) pa_nil))) (pe_callB call_isi (by rfl) T.misinstance (by decide +kernel) (pa_cons (pv 1) (pa_cons (pe_bltn (v := .ty "str") (by rfl) T.mstr (by decide +kernel) rfl) pa_nil))) (nomark _)) (pe_one (pe_cmpR op_eq (pv 0) (pv 1) (nomark _))))))))), ?_⟩
  have kI : ∀ (t c : String) (r : Bool), kitB t c = some r → PySem.W.kitOne K (.type t) (.type c) = some r := fun t c r h => kit_ty h
  have split : (v = w ∧ flatV v = true) ∨ ∃ (m : Nat) (a b : Addr) (vs ws : List V), n = m + 1 ∧ v = .ref a ∧ w = .ref b ∧ ((H a = some (.tup vs) ∧ H b = some (.tup ws)) ∨ (H a = some (.lst vs) ∧ H b = some (.lst ws))) ∧ vs.length = ws.length ∧ vs.length < 100000 ∧
      ∀ (i : Nat) x y, vs[i]? = some x → ws[i]? = some y → Eq2 H m x y := by
    cases n with
    | zero => exact .inl hE
    | succ m =>
      rcases hE with h | ⟨a, b, vs, ws, h⟩
      · exact .inl h
      · exact .inr ⟨m, a, b, vs, ws, rfl, h⟩
  rcases split with ⟨rfl, hf⟩ | ⟨m, a, b, vs, ws, rfl, rfl, rfl, hab, hl, hz, hi⟩
  · by_cases hn : v = .non
    · subst hn
      refine ⟨_, rfl, (by show 2 ≤ sizeLine; decide), fun p np => ?_⟩
      refine ⟨.non, p, [.ty "list", .ty "tuple"], .type "NoneType", [.type "list", .type "tuple"], false, rfl, upd_same, .cons (.ty _) (.cons (.ty _) .nil), .base .non,
        kitAny_cons (kI "NoneType" "list" false (by decide +kernel)) (fun _ => kitAny_cons (kI "NoneType" "tuple" false (by decide +kernel)) (fun _ => rfl) (fun z => nomatch z)) (fun z => nomatch z), false, rfl, iteF ?_⟩
      refine ⟨_, rfl, rfl, _, rfl, iteT ?_⟩
      exact ⟨_, rfl, rfl, q _ (same_new np)⟩
    · obtain ⟨t, b1, b2, b3, ty, k1, k2, k3, k4, k5, hs⟩ := plain_of (K := K) hf hn
      refine ⟨_, rfl, (by show 2 ≤ sizeLine; decide), fun p np => ?_⟩
      refine ⟨v, p, [.ty "list", .ty "tuple"], .type t, [.type "list", .type "tuple"], false, rfl, upd_same, .cons (.ty _) (.cons (.ty _) .nil), ty _,
        kitAny_cons (kI t "list" false k1) (fun _ => kitAny_cons (kI t "tuple" false k2) (fun _ => rfl) (fun z => nomatch z)) (fun z => nomatch z), false, rfl, iteF ?_⟩
      have dn : ¬ decide (v = V.non) = true := fun z => hn (of_decide_eq_true z)
      have same2 : ∀ b : Bool, ¬ (!decide (V.bl b = V.bl b)) = true := fun b => by rw [decide_eq_true rfl]; exact Bool.false_ne_true
      refine ⟨_, rfl, rfl, _, rfl, ite2 (fun z => absurd z dn) (fun _ => ?_)⟩
      refine ⟨_, rfl, v, .ty "bool", .type t, _, b1, rfl, .ty _, ty _, kI t "bool" b1 k3, _, rfl, v, .ty "bool", .type t, _, b1, rfl, .ty _, ty _, kI t "bool" b1 k3, rfl, _, rfl, ite2 (fun z => absurd z (same2 b1)) (fun _ => ?_)⟩
      refine ⟨_, rfl, v, .ty "int", .type t, _, b2, rfl, .ty _, ty _, kI t "int" b2 k4, _, rfl, v, .ty "int", .type t, _, b2, rfl, .ty _, ty _, kI t "int" b2 k4, rfl, _, rfl, ite2 (fun z => absurd z (same2 b2)) (fun _ => ?_)⟩
      refine ⟨_, rfl, v, .ty "str", .type t, _, b3, rfl, .ty _, ty _, kI t "str" b3 k5, _, rfl, v, .ty "str", .type t, _, b3, rfl, .ty _, ty _, kI t "str" b3 k5, rfl, _, rfl, ite2 (fun _ => ?_) (fun z => absurd (decide_eq_true rfl) z)⟩
      refine ⟨_, rfl, _, rfl, hs, ?_⟩
      rw [decide_eq_true rfl]
      exact q _ (same_new np)
  · rcases hab with ⟨ha, hb⟩ | ⟨ha, hb⟩
    · -- two tuples
      refine ⟨_, rfl, (by show 2 ≤ sizeLine; decide), fun p np => ?_⟩
      have s1 : Same H (upd H p (.tup [.ty "list", .ty "tuple"])) := same_new np
      have ka : PySem.W.kitAny K (.type "tuple") [.type "list", .type "tuple"] = some true := kitAny_cons (kI "tuple" "list" false (by decide +kernel)) (fun _ => kitAny_cons (kI "tuple" "tuple" true (by decide +kernel)) (fun z => nomatch z) (fun _ => rfl)) (fun _ => rfl)
      refine ⟨.ref b, p, [.ty "list", .ty "tuple"], .type "tuple", [.type "list", .type "tuple"], true, rfl, upd_same, .cons (.ty _) (.cons (.ty _) .nil), .base (.tup (s1 _ _ hb)), ka, true, rfl, iteT ?_⟩
      refine ⟨_, rfl, .ref a, .ty "list", .type "tuple", _, false, rfl, .ty _, .base (.tup (s1 _ _ ha)), kI "tuple" "list" false (by decide +kernel), _, rfl, .ref b, .ty "list", .type "tuple", _, false, rfl, .ty _, .base (.tup (s1 _ _ hb)), kI "tuple" "list" false (by decide +kernel), rfl, _, rfl, iteF ?_⟩
      refine ⟨_, rfl, (by show 2 ≤ sizeLine; decide), fun p2 np2 => ?_⟩
      have s2 := s1.trans (same_new (o := .tup [.ty "list", .ty "tuple"]) np2)
      refine ⟨.ref a, p2, [.ty "list", .ty "tuple"], .type "tuple", [.type "list", .type "tuple"], true, rfl, upd_same, .cons (.ty _) (.cons (.ty _) .nil), .base (.tup (s2 _ _ ha)), ka, true, rfl, iteF ?_⟩
      refine ⟨_, rfl, .ref a, vs.length, rfl, .inr ⟨_, SqT.of (s2 _ _ ha), rfl⟩, _, rfl, .ref b, ws.length, rfl, .inr ⟨_, SqT.of (s2 _ _ hb), rfl⟩, rfl, _, rfl, ite2 (fun _ => ?_) (fun z => absurd (decide_eq_true (by rw [hl])) z)⟩
      refine ⟨_, rfl, _, rfl, a, b, vs, ws, rfl, .inr ⟨SqT.of (s2 _ _ ha), SqT.of (s2 _ _ hb), fun Dn nD => ?_⟩⟩
      have nDH : H Dn = none := s2.free nD
      refine lc_it (walk_zipT (K := K) (xs := vs) (ys := ws) (n := vs.length) (by omega)) (fun i H' => Same H H' ∧ H' Dn = some (.lst ((List.replicate i true).map V.bl))) ⟨s2.trans (same_new nD), upd_same⟩ (fun i H' _ hP => ⟨SqT.of (hP.1 _ _ ha), SqT.of (hP.1 _ _ hb)⟩) (fun i x H' H'' hlt hP hY => ?_) (fun H' hP => ?_)
      · obtain ⟨sm, hD⟩ := hP
        obtain ⟨Tn, x1, x2, rfl, nT, rfl, g1, g2⟩ := hY
        have sT : Same H' (upd H' Tn (.tup [x1, x2])) := same_new nT
        refine ⟨Tn, [x1, x2], rfl, SqT.of upd_same, rfl, x1, [x2], rfl, x2, [], rfl, rfl, rfl, yes_go ?_⟩
        refine ⟨_, rfl, _, rfl, x1, x2, rfl, Eq2.same (sm.trans sT) (hi i x1 x2 g1 g2), fun H3 s3 => ?_⟩
        refine ⟨_, s3 _ _ (sT _ _ hD), ?_, Same.upd_new ((sm.trans sT).trans s3) nDH, ?_⟩
        · rw [List.length_map, List.length_replicate]
          exact szl (by omega)
        · rw [upd_same, List.replicate_succ', List.map_append]
          rfl
      · obtain ⟨sm, hD⟩ := hP
        refine ⟨Dn, List.replicate vs.length true, rfl, SqL.of hD, ?_⟩
        rw [all_trues]
        exact q _ sm
    · -- two lists
      refine ⟨_, rfl, (by show 2 ≤ sizeLine; decide), fun p np => ?_⟩
      have s1 : Same H (upd H p (.tup [.ty "list", .ty "tuple"])) := same_new np
      have ka : PySem.W.kitAny K (.type "list") [.type "list", .type "tuple"] = some true := kitAny_cons (kI "list" "list" true (by decide +kernel)) (fun z => nomatch z) (fun _ => rfl)
      refine ⟨.ref b, p, [.ty "list", .ty "tuple"], .type "list", [.type "list", .type "tuple"], true, rfl, upd_same, .cons (.ty _) (.cons (.ty _) .nil), .base (.lst (s1 _ _ hb)), ka, true, rfl, iteT ?_⟩
      refine ⟨_, rfl, .ref a, .ty "list", .type "list", _, true, rfl, .ty _, .base (.lst (s1 _ _ ha)), kI "list" "list" true (by decide +kernel), _, rfl, .ref b, .ty "list", .type "list", _, true, rfl, .ty _, .base (.lst (s1 _ _ hb)), kI "list" "list" true (by decide +kernel), rfl, _, rfl, iteF ?_⟩
      refine ⟨_, rfl, (by show 2 ≤ sizeLine; decide), fun p2 np2 => ?_⟩
      have s2 := s1.trans (same_new (o := .tup [.ty "list", .ty "tuple"]) np2)
      refine ⟨.ref a, p2, [.ty "list", .ty "tuple"], .type "list", [.type "list", .type "tuple"], true, rfl, upd_same, .cons (.ty _) (.cons (.ty _) .nil), .base (.lst (s2 _ _ ha)), ka, true, rfl, iteF ?_⟩
      refine ⟨_, rfl, .ref a, vs.length, rfl, .inl ⟨_, SqL.of (s2 _ _ ha), rfl⟩, _, rfl, .ref b, ws.length, rfl, .inl ⟨_, SqL.of (s2 _ _ hb), rfl⟩, rfl, _, rfl, ite2 (fun _ => ?_) (fun z => absurd (decide_eq_true (by rw [hl])) z)⟩
      refine ⟨_, rfl, _, rfl, a, b, vs, ws, rfl, .inl ⟨SqL.of (s2 _ _ ha), SqL.of (s2 _ _ hb), fun Dn nD => ?_⟩⟩
      have nDH : H Dn = none := s2.free nD
      refine lc_it (walk_zip (K := K) (xs := vs) (ys := ws) (n := vs.length) (by omega)) (fun i H' => Same H H' ∧ H' Dn = some (.lst ((List.replicate i true).map V.bl))) ⟨s2.trans (same_new nD), upd_same⟩ (fun i H' _ hP => ⟨SqL.of (hP.1 _ _ ha), SqL.of (hP.1 _ _ hb)⟩) (fun i x H' H'' hlt hP hY => ?_) (fun H' hP => ?_)
      · obtain ⟨sm, hD⟩ := hP
        obtain ⟨Tn, x1, x2, rfl, nT, rfl, g1, g2⟩ := hY
        have sT : Same H' (upd H' Tn (.tup [x1, x2])) := same_new nT
        refine ⟨Tn, [x1, x2], rfl, SqT.of upd_same, rfl, x1, [x2], rfl, x2, [], rfl, rfl, rfl, yes_go ?_⟩
        refine ⟨_, rfl, _, rfl, x1, x2, rfl, Eq2.same (sm.trans sT) (hi i x1 x2 g1 g2), fun H3 s3 => ?_⟩
        refine ⟨_, s3 _ _ (sT _ _ hD), ?_, Same.upd_new ((sm.trans sT).trans s3) nDH, ?_⟩
        · rw [List.length_map, List.length_replicate]
          exact szl (by omega)
        · rw [upd_same, List.replicate_succ', List.map_append]
          rfl
      · obtain ⟨sm, hD⟩ := hP
        refine ⟨Dn, List.replicate vs.length true, rfl, SqL.of hD, ?_⟩
        rw [all_trues]
        exact q _ sm
theorem ok_same (T : Tops w K mg) : ∀ n : Nat, FnOk P w K mg base CX0 (n + 1) T.fl_same T.dl_same ["_law_found", "_law_due"] (spSame n)
  | 0 => ok_same1 T 0 fn_none
  | n + 1 => ok_same1 T (n + 1) (ok_same T n)
end
end K08

set_option Elab.async false
set_option linter.all false
set_option maxRecDepth 100000
set_option maxHeartbeats 4000000
namespace K08
open PySem PySem.Spec PyProof.Rows L2 OG
open C8 (pss_cut pe_gc)

section
variable {P : Program} {w : World} {K : PySem.W.Frag} {mg : Str → Option Value} {base : Heap}
theorem ok_l_bodies (T : Tops w K mg) : FnOk P w K mg base CX0 1 T.fl_bodies T.dl_bodies ["_law_thing"] spBodies := by
  refine T.Fl_bodies.ok (k := 0) scl_bodies (fun vs H Q E h => ?_) (fun cdv A outer s H vs Q E hr h => ?_)
  · obtain ⟨v, t, rfl, _⟩ := h
    rfl
  obtain ⟨v, t, rfl, hR, q⟩ := h
  refine ⟨_, (pss_cons (ps_if (pt_cmpR op_eq (pe_ix ix_tup (pv 0) pe_int (fun _ _ => rfl)) pe_str (nomark _))
  (pss_one (ps_ret (pe_lst (pa_cons (pe_ix ix_tup (pv 0) pe_int (fun _ _ => rfl)) (pa_cons (pe_ix ix_tup (pv 0) pe_int (fun _ _ => rfl)) pa_nil)))))
  pss_nil)
 (pss_one (ps_ret (pe_dget2 (hu_of hr) (pe_disp (pps_cons pe_str (pe_lst (pa_cons (pe_ix ix_tup (pv 0) (pe_un un_neg pe_int) (fun _ _ => rfl)) pa_nil)) (pps_cons pe_str (pe_lst (pa_cons (pe_ix ix_tup (pv 0) (pe_un un_neg pe_int) (fun _ _ => rfl)) pa_nil)) pps_nil)) (by rfl) (by rfl) (fun z => by cases z) (by decide)) (pe_ix ix_tup (pv 0) pe_int (fun _ _ => rfl)) (pe_lst pa_nil) ⟨by rfl, by rfl, by rfl, by rfl⟩)))), ?_⟩
  cases t with
  | step k =>
    obtain ⟨a, v1, v2, rfl, ha, rfl, h2⟩ := rp_t2 hR
    refine ⟨_, rfl, a, _, 0, _, rfl, rfl, SqT.of ha, rfl, rfl, _, rfl, ite2 (fun z => absurd z (by decide +kernel)) (fun _ => ?_)⟩
    refine fun p np => ?_
    have sp : Same H (upd H p (.dK [])) := same_new np
    refine ⟨_, rfl, 1, rfl, a, _, -1, _, rfl, rfl, SqT.of (sp _ _ ha), rfl, (by show 1 ≤ sizeLine; decide), fun l1 n1 => ?_⟩
    have s1 := sp.trans (same_new (o := .lst [v2]) n1)
    refine ⟨_, rfl, 1, rfl, a, _, -1, _, rfl, rfl, SqT.of (s1 _ _ ha), rfl, (by show 1 ≤ sizeLine; decide), fun l2 n2 => ?_⟩
    have s2 := s1.trans (same_new (o := .lst [v2]) n2)
    have hp : (upd (upd (upd H p (.dK [])) l1 (.lst [v2])) l2 (.lst [v2])) p = some (.dK []) := same_new n2 _ _ (same_new n1 _ _ upd_same)
    refine ⟨hp, [(Sum.inr "for", .ref l1), (Sum.inr "double", .ref l2)], rfl, (by show 2 ≤ 15; decide), ?_⟩
    have nl1 : l1 ≠ p := (ne_of_none upd_same n1).symm
    have nl2 : l2 ≠ p := (ne_of_none (same_new n1 _ _ upd_same) n2).symm
    have hG : (upd (upd (upd (upd H p (.dK [])) l1 (.lst [v2])) l2 (.lst [v2])) p (.dK (mergeK [] [(Sum.inr "for", .ref l1), (Sum.inr "double", .ref l2)]))) p = some (.dK [(Sum.inr "for", .ref l1), (Sum.inr "double", .ref l2)]) := by
      rw [upd_same]
      rfl
    have s3 : Same H (upd (upd (upd (upd H p (.dK [])) l1 (.lst [v2])) l2 (.lst [v2])) p (.dK (mergeK [] [(Sum.inr "for", .ref l1), (Sum.inr "double", .ref l2)]))) := Same.upd_new s2 np
    refine ⟨p, rfl, .inl ⟨_, .inl hG⟩, _, rfl, a, _, 0, _, rfl, rfl, SqT.of (s3 _ _ ha), rfl, Nat.zero_le _, fun e ne => ?_⟩
    refine ⟨_, DGet.k (k := Sum.inr "step") (same_new ne _ _ hG), ?_⟩
    have q2 := q e [] _ (s3.trans (same_new (o := .lst []) ne)) (s3.free ne) upd_same rpl_nil
    exact q2
  | loop x e1 e2 b =>
    obtain ⟨a, v1, v2, v3, v4, v5, rfl, ha, rfl, h2, h3, h4, h5⟩ := rp_t5 hR
    refine ⟨_, rfl, a, _, 0, _, rfl, rfl, SqT.of ha, rfl, rfl, _, rfl, ite2 (fun z => absurd z (by decide +kernel)) (fun _ => ?_)⟩
    refine fun p np => ?_
    have sp : Same H (upd H p (.dK [])) := same_new np
    refine ⟨_, rfl, 1, rfl, a, _, -1, _, rfl, rfl, SqT.of (sp _ _ ha), rfl, (by show 1 ≤ sizeLine; decide), fun l1 n1 => ?_⟩
    have s1 := sp.trans (same_new (o := .lst [v5]) n1)
    refine ⟨_, rfl, 1, rfl, a, _, -1, _, rfl, rfl, SqT.of (s1 _ _ ha), rfl, (by show 1 ≤ sizeLine; decide), fun l2 n2 => ?_⟩
    have s2 := s1.trans (same_new (o := .lst [v5]) n2)
    have hp : (upd (upd (upd H p (.dK [])) l1 (.lst [v5])) l2 (.lst [v5])) p = some (.dK []) := same_new n2 _ _ (same_new n1 _ _ upd_same)
    refine ⟨hp, [(Sum.inr "for", .ref l1), (Sum.inr "double", .ref l2)], rfl, (by show 2 ≤ 15; decide), ?_⟩
    have nl1 : l1 ≠ p := (ne_of_none upd_same n1).symm
    have nl2 : l2 ≠ p := (ne_of_none (same_new n1 _ _ upd_same) n2).symm
    have hG : (upd (upd (upd (upd H p (.dK [])) l1 (.lst [v5])) l2 (.lst [v5])) p (.dK (mergeK [] [(Sum.inr "for", .ref l1), (Sum.inr "double", .ref l2)]))) p = some (.dK [(Sum.inr "for", .ref l1), (Sum.inr "double", .ref l2)]) := by
      rw [upd_same]
      rfl
    have s3 : Same H (upd (upd (upd (upd H p (.dK [])) l1 (.lst [v5])) l2 (.lst [v5])) p (.dK (mergeK [] [(Sum.inr "for", .ref l1), (Sum.inr "double", .ref l2)]))) := Same.upd_new s2 np
    refine ⟨p, rfl, .inl ⟨_, .inl hG⟩, _, rfl, a, _, 0, _, rfl, rfl, SqT.of (s3 _ _ ha), rfl, Nat.zero_le _, fun e ne => ?_⟩
    refine ⟨_, DGet.k (k := Sum.inr "for") (same_new ne _ _ hG), ?_⟩
    have q2 := q l1 [v5] _ (s3.trans (same_new (o := .lst []) ne)) (sp.free n1) (same_new ne _ _ (by rw [upd_ne nl1]; exact same_new n2 _ _ upd_same)) (rpl_cons (h5.to ((Imm.same s3).trans (Imm.same (same_new ne)))) rpl_nil)
    exact q2
  | test e1 e2 x y =>
    obtain ⟨a, v1, v2, v3, v4, v5, rfl, ha, rfl, h2, h3, h4, h5⟩ := rp_t5 hR
    refine ⟨_, rfl, a, _, 0, _, rfl, rfl, SqT.of ha, rfl, rfl, _, rfl, ite2 (fun _ => ?_) (fun z => absurd (by decide +kernel) z)⟩
    refine ⟨_, rfl, a, _, 3, _, rfl, rfl, SqT.of ha, rfl, _, rfl, a, _, 4, _, rfl, rfl, SqT.of ha, rfl, (by show 2 ≤ sizeLine; decide), fun p np => ?_⟩
    exact q p _ _ (same_new np) np upd_same (rpl_cons (h4.to (Imm.same (same_new np))) (rpl_cons (h5.to (Imm.same (same_new np))) rpl_nil))
  | twice b =>
    obtain ⟨a, v1, v2, rfl, ha, rfl, h2⟩ := rp_t2 hR
    refine ⟨_, rfl, a, _, 0, _, rfl, rfl, SqT.of ha, rfl, rfl, _, rfl, ite2 (fun z => absurd z (by decide +kernel)) (fun _ => ?_)⟩
    refine fun p np => ?_
    have sp : Same H (upd H p (.dK [])) := same_new np
    refine ⟨_, rfl, 1, rfl, a, _, -1, _, rfl, rfl, SqT.of (sp _ _ ha), rfl, (by show 1 ≤ sizeLine; decide), fun l1 n1 => ?_⟩
    have s1 := sp.trans (same_new (o := .lst [v2]) n1)
    refine ⟨_, rfl, 1, rfl, a, _, -1, _, rfl, rfl, SqT.of (s1 _ _ ha), rfl, (by show 1 ≤ sizeLine; decide), fun l2 n2 => ?_⟩
    have s2 := s1.trans (same_new (o := .lst [v2]) n2)
    have hp : (upd (upd (upd H p (.dK [])) l1 (.lst [v2])) l2 (.lst [v2])) p = some (.dK []) := same_new n2 _ _ (same_new n1 _ _ upd_same)
    refine ⟨hp, [(Sum.inr "for", .ref l1), (Sum.inr "double", .ref l2)], rfl, (by show 2 ≤ 15; decide), ?_⟩
    have nl1 : l1 ≠ p := (ne_of_none upd_same n1).symm
    have nl2 : l2 ≠ p := (ne_of_none (same_new n1 _ _ upd_same) n2).symm
    have hG : (upd (upd (upd (upd H p (.dK [])) l1 (.lst [v2])) l2 (.lst [v2])) p (.dK (mergeK [] [(Sum.inr "for", .ref l1), (Sum.inr "double", .ref l2)]))) p = some (.dK [(Sum.inr "for", .ref l1), (Sum.inr "double", .ref l2)]) := by
      rw [upd_same]
      rfl
    have s3 : Same H (upd (upd (upd (upd H p (.dK [])) l1 (.lst [v2])) l2 (.lst [v2])) p (.dK (mergeK [] [(Sum.inr "for", .ref l1), (Sum.inr "double", .ref l2)]))) := Same.upd_new s2 np
    refine ⟨p, rfl, .inl ⟨_, .inl hG⟩, _, rfl, a, _, 0, _, rfl, rfl, SqT.of (s3 _ _ ha), rfl, Nat.zero_le _, fun e ne => ?_⟩
    refine ⟨_, DGet.k (k := Sum.inr "double") (same_new ne _ _ hG), ?_⟩
    have q2 := q l2 [v2] _ (s3.trans (same_new (o := .lst []) ne)) (s1.free n2) (same_new ne _ _ (by rw [upd_ne nl2]; exact upd_same)) (rpl_cons (h2.to ((Imm.same s3).trans (Imm.same (same_new ne)))) rpl_nil)
    exact q2
  | call x e =>
    obtain ⟨a, v1, v2, v3, rfl, ha, rfl, h2, h3⟩ := rp_t3 hR
    refine ⟨_, rfl, a, _, 0, _, rfl, rfl, SqT.of ha, rfl, rfl, _, rfl, ite2 (fun z => absurd z (by decide +kernel)) (fun _ => ?_)⟩
    refine fun p np => ?_
    have sp : Same H (upd H p (.dK [])) := same_new np
    refine ⟨_, rfl, 1, rfl, a, _, -1, _, rfl, rfl, SqT.of (sp _ _ ha), rfl, (by show 1 ≤ sizeLine; decide), fun l1 n1 => ?_⟩
    have s1 := sp.trans (same_new (o := .lst [v3]) n1)
    refine ⟨_, rfl, 1, rfl, a, _, -1, _, rfl, rfl, SqT.of (s1 _ _ ha), rfl, (by show 1 ≤ sizeLine; decide), fun l2 n2 => ?_⟩
    have s2 := s1.trans (same_new (o := .lst [v3]) n2)
    have hp : (upd (upd (upd H p (.dK [])) l1 (.lst [v3])) l2 (.lst [v3])) p = some (.dK []) := same_new n2 _ _ (same_new n1 _ _ upd_same)
    refine ⟨hp, [(Sum.inr "for", .ref l1), (Sum.inr "double", .ref l2)], rfl, (by show 2 ≤ 15; decide), ?_⟩
    have nl1 : l1 ≠ p := (ne_of_none upd_same n1).symm
    have nl2 : l2 ≠ p := (ne_of_none (same_new n1 _ _ upd_same) n2).symm
    have hG : (upd (upd (upd (upd H p (.dK [])) l1 (.lst [v3])) l2 (.lst [v3])) p (.dK (mergeK [] [(Sum.inr "for", .ref l1), (Sum.inr "double", .ref l2)]))) p = some (.dK [(Sum.inr "for", .ref l1), (Sum.inr "double", .ref l2)]) := by
      rw [upd_same]
      rfl
    have s3 : Same H (upd (upd (upd (upd H p (.dK [])) l1 (.lst [v3])) l2 (.lst [v3])) p (.dK (mergeK [] [(Sum.inr "for", .ref l1), (Sum.inr "double", .ref l2)]))) := Same.upd_new s2 np
    refine ⟨p, rfl, .inl ⟨_, .inl hG⟩, _, rfl, a, _, 0, _, rfl, rfl, SqT.of (s3 _ _ ha), rfl, Nat.zero_le _, fun e ne => ?_⟩
    refine ⟨_, DGet.k (k := Sum.inr "call") (same_new ne _ _ hG), ?_⟩
    have q2 := q e [] _ (s3.trans (same_new (o := .lst []) ne)) (s3.free ne) upd_same rpl_nil
    exact q2
  | again k w =>
    obtain ⟨a, v1, v2, v3, rfl, ha, rfl, h2, h3⟩ := rp_t3 hR
    refine ⟨_, rfl, a, _, 0, _, rfl, rfl, SqT.of ha, rfl, rfl, _, rfl, ite2 (fun z => absurd z (by decide +kernel)) (fun _ => ?_)⟩
    refine fun p np => ?_
    have sp : Same H (upd H p (.dK [])) := same_new np
    refine ⟨_, rfl, 1, rfl, a, _, -1, _, rfl, rfl, SqT.of (sp _ _ ha), rfl, (by show 1 ≤ sizeLine; decide), fun l1 n1 => ?_⟩
    have s1 := sp.trans (same_new (o := .lst [v3]) n1)
    refine ⟨_, rfl, 1, rfl, a, _, -1, _, rfl, rfl, SqT.of (s1 _ _ ha), rfl, (by show 1 ≤ sizeLine; decide), fun l2 n2 => ?_⟩
    have s2 := s1.trans (same_new (o := .lst [v3]) n2)
    have hp : (upd (upd (upd H p (.dK [])) l1 (.lst [v3])) l2 (.lst [v3])) p = some (.dK []) := same_new n2 _ _ (same_new n1 _ _ upd_same)
    refine ⟨hp, [(Sum.inr "for", .ref l1), (Sum.inr "double", .ref l2)], rfl, (by show 2 ≤ 15; decide), ?_⟩
    have nl1 : l1 ≠ p := (ne_of_none upd_same n1).symm
    have nl2 : l2 ≠ p := (ne_of_none (same_new n1 _ _ upd_same) n2).symm
    have hG : (upd (upd (upd (upd H p (.dK [])) l1 (.lst [v3])) l2 (.lst [v3])) p (.dK (mergeK [] [(Sum.inr "for", .ref l1), (Sum.inr "double", .ref l2)]))) p = some (.dK [(Sum.inr "for", .ref l1), (Sum.inr "double", .ref l2)]) := by
      rw [upd_same]
      rfl
    have s3 : Same H (upd (upd (upd (upd H p (.dK [])) l1 (.lst [v3])) l2 (.lst [v3])) p (.dK (mergeK [] [(Sum.inr "for", .ref l1), (Sum.inr "double", .ref l2)]))) := Same.upd_new s2 np
    refine ⟨p, rfl, .inl ⟨_, .inl hG⟩, _, rfl, a, _, 0, _, rfl, rfl, SqT.of (s3 _ _ ha), rfl, Nat.zero_le _, fun e ne => ?_⟩
    refine ⟨_, DGet.k (k := Sum.inr "again") (same_new ne _ _ hG), ?_⟩
    have q2 := q e [] _ (s3.trans (same_new (o := .lst []) ne)) (s3.free ne) upd_same rpl_nil
    exact q2
theorem ok_l_every (T : Tops w K mg) (n : Nat) (Gl_every : FnOk P w K mg base CX0 (n + 1) T.fl_every T.dl_every ["_law_plan"] (prevE n)) : FnOk P w K mg base CX0 (n + 2) T.fl_every T.dl_every ["_law_plan"] (spEvery n) := by
  have Gl_bodies : FnOk P w K mg base CX0 1 T.fl_bodies T.dl_bodies ["_law_thing"] spBodies := ok_l_bodies T
  refine T.Fl_every.ok (k := n + 1) scl_every (fun vs H Q E h => ?_) (fun cdv A outer s H vs Q E hr h => ?_)
  · obtain ⟨v, ts, C, A', sc, rfl, _⟩ := h
    rfl
  obtain ⟨v, ts, C, A', sc, rfl, hR, hT, hc, q⟩ := h
  refine ⟨_, (pss_cons (ps_set (i := 1) scl_every.nd rfl (Or.inl rfl) (pe_lst pa_nil))
 (pss_cons (ps_for PassesOwn.never rfl (pi_tup (pv 0)) (pg_name (i := 2) scl_every.nd rfl (Or.inl rfl))
  (pss_cons (ps_expr (pe_bm PySem.F.plainAttrs_list PySem.F.slot_list_append PySem.F.type_list_append mt_append (pv 1) (pa_cons (pv 2) pa_nil)))
 (pss_one (ps_for PassesOwn.never rfl (pi_list (pe_call Gl_bodies (hr.mono (by omega)) (by rfl) T.gl_bodies T.Fl_bodies.kp T.bl_bodies .nil pass0 (pa_cons (pv 2) pa_nil))) (pg_name (i := 3) scl_every.nd rfl (Or.inl rfl))
  (pss_one (ps_set (i := 1) scl_every.nd rfl (Or.inl rfl) (pe_op op_cat (pv 1) (pe_call Gl_every (hr.mono (by omega)) (by rfl) T.gl_every T.Fl_every.kp T.bl_every .nil pass0 (pa_cons (pv 3) pa_nil)))))))))
 (pss_one (ps_ret (pv 1))))), ?_⟩
  obtain ⟨a, vs, rfl, ha, hvs⟩ := id hR
  have hl := hvs.length
  rw [encs_length] at hl
  refine ⟨Nat.zero_le _, fun F0 nF0 => ?_⟩
  have s0 : Same H (upd H F0 (.lst [])) := same_new nF0
  refine ⟨_, rfl, a, rfl, ⟨_, SqT.of (s0 _ _ ha)⟩, ?_⟩
  refine for_tup (xs := vs) (fun i σ H' => ∃ F, (∃ x2 x3, σ = [some (.ref a), some (.ref F), x2, x3]) ∧ H F = none ∧ Same H H' ∧ ∃ us, H' F = some (.lst us) ∧ RpL H' us (encs (everyB (ts.take i)))) ⟨F0, ⟨_, _, rfl⟩, nF0, s0, [], upd_same, rfl⟩ (fun i σ H' _ hP => by
    obtain ⟨F, _, _, s2, _⟩ := hP
    exact SqT.of (s2 _ _ ha)) (fun i x σ H2 hx hP => ?_) (fun σ H2 hP => ?_)
  · obtain ⟨F, ⟨x2, x3, rfl⟩, nF, s2, us, hF2, hR2⟩ := hP
    obtain ⟨t, ht, hRt⟩ := rpl_things (hvs.to (Imm.same s2)) hx
    have hTt : TOk C A' sc n t := (tsok_iff ts).mp hT t (List.mem_of_getElem? ht)
    have hct : cntT t ≤ 1000 := Nat.le_trans (cnt_mem (List.mem_of_getElem? ht)) hc
    have p0 := part_len ht 0
    have l2 := hR2.length
    rw [encs_length] at l2
    have lus : us.length < 100000 := by
      rw [l2]
      rw [List.length_append, List.length_cons] at p0
      omega
    refine ⟨_, rfl, .inl ⟨rfl, _, SqL.of hF2⟩, _, rfl, F, us, x, rfl, rfl, hF2, szl lus, ?_⟩
    have s3 : Same H (upd H2 F (.lst (us ++ [x]))) := Same.upd_new s2 nF
    have i3 : Imm H2 (upd H2 F (.lst (us ++ [x]))) := (Imm.refl H2).upd fun xs e => by rw [hF2] at e; cases e
    refine ⟨_, rfl, x, t, rfl, hRt.to i3, fun B bs H4 s4 nB hB hRb => ?_⟩
    refine ⟨B, rfl, ⟨_, SqL.of hB⟩, ?_⟩
    have lb := hRb.length
    unfold encBs at lb
    rw [List.length_map] at lb
    have nBF : B ≠ F := (ne_of_none upd_same nB).symm
    have nBH : H B = none := s3.free nB
    refine for_list (xs := bs) (fun j σ H' => ∃ F', (∃ x3, σ = [some (.ref a), some (.ref F'), some x, x3]) ∧ H F' = none ∧ F' ≠ B ∧ Same H H' ∧ H' B = some (.lst bs) ∧ RpL H' bs (encBs (bodiesT t)) ∧ ∃ us', H' F' = some (.lst us') ∧ RpL H' us' (encs (everyB (ts.take i) ++ t :: ((bodiesT t).take j).flatMap everyB)))
      ⟨F, ⟨_, rfl⟩, nF, nBF.symm, s3.trans s4, hB, hRb, us ++ [x], s4 _ _ upd_same, ?_⟩ (fun j σ H' _ hP => by
        obtain ⟨F', _, _, _, _, hB', _⟩ := hP
        exact SqL.of hB') (fun j y σ H5 hy hP => ?_) (fun σ H5 hP => ?_)
    · show RpL H4 (us ++ [x]) (encs (everyB (ts.take i) ++ t :: []))
      rw [encs_cons_append]
      exact (hR2.to (i3.trans (Imm.same s4))).append (rpl_cons (hRt.to (i3.trans (Imm.same s4))) rpl_nil)
    · obtain ⟨F', ⟨x3', rfl⟩, nF', nFB, s5, hB5, hRb5, us5, hF5, hR5⟩ := hP
      obtain ⟨b, hb, hRy⟩ := rpl_bodies hRb5 hy
      obtain ⟨sc', m, en, hTb⟩ := bodies_ok hTt b (List.mem_of_getElem? hb)
      subst en
      have hcb : cntB b ≤ 1000 := Nat.le_trans (bodies_cnt b (List.mem_of_getElem? hb)) hct
      have p5 := part_len ht (j + 1)
      rw [flat_step hb] at p5
      have l5 := hR5.length
      rw [encs_length] at l5
      refine ⟨_, rfl, _, rfl, y, b, C, A', sc', rfl, hRy, hTb, hcb, fun p us6 H6 s6 np hp hR6 => ?_⟩
      have l6 := hR6.length
      rw [encs_length] at l6
      have lz : us5.length + us6.length ≤ 100000 := by
        rw [l5, l6]
        simp only [List.length_append, List.length_cons] at p5 ⊢
        omega
      have hF6 := s6 _ _ hF5
      refine ⟨F', p, us5, us6, rfl, rfl, hF6, hp, sz lz, fun F7 nF7 => ?_⟩
      have s7 : Same H6 (upd H6 F7 (.lst (us5 ++ us6))) := same_new nF7
      refine ⟨F7, ⟨_, rfl⟩, (s5.trans s6).free nF7, (ne_of_none (s6 _ _ hB5) nF7).symm, (s5.trans s6).trans s7, s7 _ _ (s6 _ _ hB5), hRb5.to ((Imm.same s6).trans (Imm.same s7)), us5 ++ us6, upd_same, ?_⟩
      rw [flat_step hb]
      have e : everyB (ts.take i) ++ t :: (((bodiesT t).take j).flatMap everyB ++ everyB b) = (everyB (ts.take i) ++ t :: ((bodiesT t).take j).flatMap everyB) ++ everyB b := by rw [List.append_assoc]; rfl
      rw [e, encs_append]
      exact (hR5.to ((Imm.same s6).trans (Imm.same s7))).append (hR6.to (Imm.same s7))
    · obtain ⟨F', ⟨x3', rfl⟩, nF', nFB, s5, hB5, hRb5, us5, hF5, hR5⟩ := hP
      refine ⟨F', ⟨_, _, rfl⟩, nF', s5, us5, hF5, ?_⟩
      rw [lb, List.take_length] at hR5
      rw [everyB_take ht]
      exact hR5
  · obtain ⟨F, ⟨x2, x3, rfl⟩, nF, s2, us, hF2, hR2⟩ := hP
    rw [hl, List.take_length] at hR2
    exact ⟨_, rfl, q F us H2 s2 nF hF2 hR2⟩
theorem ok_l_everys (T : Tops w K mg) : ∀ n : Nat, FnOk P w K mg base CX0 (n + 2) T.fl_every T.dl_every ["_law_plan"] (spEvery n)
  | 0 => ok_l_every T 0 OG.fn_none
  | n + 1 => ok_l_every T (n + 1) (ok_l_everys T n)
end
end K08

set_option Elab.async false
set_option linter.all false
set_option maxRecDepth 100000
set_option maxHeartbeats 4000000
namespace K08
open PySem PySem.Spec PyProof.Rows L2 OG
open C8 (pss_cut pe_gc)

section
variable {P : Program} {w : World} {K : PySem.W.Frag} {mg : Str → Option Value} {base : Heap}
def clOk (C : Str → Prop) : Thing → Prop
  | .call x e => C x ∧ ∃ sc, ScOk sc ∧ EndOk sc e
  | _ => True
mutual
theorem thing_calls8 {C : Str → Prop} {A : Prop} : ∀ (t : Thing) (sc : List Str) (n : Nat), ScOk sc → TOk C A sc n t → ∀ u ∈ everyT t, clOk C u
  | .step k, _, _, _, _, u, hu => by rw [List.mem_singleton.mp hu]; trivial
  | .loop x a b body, sc, n, hs, h, u, hu => by
    obtain ⟨h1, _, _, _, _, m, _, h6⟩ := h
    rcases List.mem_cons.mp hu with rfl | hu
    · trivial
    · exact things_calls8 body _ _ (scOk_snoc hs h1) h6 u hu
  | .test a b x y, sc, n, hs, h, u, hu => by
    obtain ⟨_, _, _, m, _, h6, h7⟩ := h
    rcases List.mem_cons.mp hu with rfl | hu
    · trivial
    · rcases List.mem_append.mp hu with hu | hu
      · exact things_calls8 x _ _ hs h6 u hu
      · exact things_calls8 y _ _ hs h7 u hu
  | .twice b, sc, n, hs, h, u, hu => by
    obtain ⟨_, m, _, h6⟩ := h
    rcases List.mem_cons.mp hu with rfl | hu
    · trivial
    · exact things_calls8 b _ _ hs h6 u hu
  | .call x e, sc, _, hs, h, u, hu => by
    rw [List.mem_singleton.mp hu]
    exact ⟨h.2.1, sc, hs, h.2.2⟩
  | .again k w, _, _, _, _, u, hu => by rw [List.mem_singleton.mp hu]; trivial
theorem things_calls8 {C : Str → Prop} {A : Prop} : ∀ (ts : List Thing) (sc : List Str) (n : Nat), ScOk sc → TsOk C A sc n ts → ∀ u ∈ everyB ts, clOk C u
  | [], _, _, _, _, u, hu => by cases hu
  | t :: r, sc, n, hs, h, u, hu => by
    rcases List.mem_append.mp hu with hu | hu
    · exact thing_calls8 t sc n hs h.1 u hu
    · exact things_calls8 r sc n hs h.2 u hu
end
def spFig (d : Nat) : Sp := fun vs H Q _ => ∃ (v : V) (pd : Addr) (Pl : Pls) (ts : List Thing), vs = [v, .ref pd] ∧ PlAt H pd Pl ∧ Rp H v (.tup (encs ts)) ∧ TsOk (Rk Pl d) True ["n"] 4 ts ∧ cntB ts ≤ 1000 ∧ ∀ b H', Same H H' → Q (.bl b) H'
theorem plat_same {H H' : Hp} {pd : Addr} {Pl : Pls} (h : PlAt H pd Pl) (s : Same H H') : PlAt H' pd Pl := by
  obtain ⟨kvs, h1, h2⟩ := h
  refine ⟨kvs, rd_same h1 s, fun x ts hx => ?_⟩
  obtain ⟨v, h3, h4⟩ := h2 x ts hx
  exact ⟨v, h3, h4.to (Imm.same s)⟩
def prevF : Nat → Sp
  | 0 => fun _ _ _ _ => False
  | d + 1 => spFig d
theorem ok_figured (T : Tops w K mg) (d k : Nat) (Gl_figured : FnOk P w K mg base CX0 k T.fl_figured T.dl_figured ["_law_plan", "_law_plans"] (prevF d)) (hk : 6 ≤ k) : FnOk P w K mg base CX0 (k + 1) T.fl_figured T.dl_figured ["_law_plan", "_law_plans"] (spFig d) := by
  have Gl_every : FnOk P w K mg base CX0 6 T.fl_every T.dl_every ["_law_plan"] (spEvery 4) := ok_l_everys T 4
  refine T.Fl_figured.ok (k := k) scl_figured (fun vs H Q E h => ?_) (fun cdv A outer s H vs Q E hr h => ?_)
  · obtain ⟨v, pd, Pl, ts, rfl, _⟩ := h
    rfl
  obtain ⟨v, pd, Pl, ts, rfl, hP, hR, hT, hc, q⟩ := h
  refine ⟨_, (pss_cons (ps_for PassesOwn.never rfl (pi_list (pe_call Gl_every (hr.mono (by omega)) (by rfl) T.gl_every T.Fl_every.kp T.bl_every .nil pass0 (pa_cons (pv 0) pa_nil))) (pg_name (i := 2) scl_figured.nd rfl (Or.inl rfl))
  (pss_cons (ps_if (pt_cmpR op_eq (pe_ix ix_tup (pv 2) pe_int (fun _ _ => rfl)) pe_str (nomark _))
  (pss_one (ps_ret pe_bl))
  pss_nil)
 (pss_one (ps_if (PW.pt (pw_and (pt_cmpR op_eq (pe_ix ix_tup (pv 2) pe_int (fun _ _ => rfl)) pe_str (nomark _)) (pw_and (pt_cmpR (op_eqD hr.units) (pe_ix ix_tup (pv 2) pe_int (fun _ _ => rfl)) (pe_tup (pa_cons pe_str (pa_cons pe_int pa_nil))) (nomark _)) (pw_and1 (pt_val (pe_call Gl_figured (hr.mono (by omega)) (by rfl) T.gl_figured T.Fl_figured.kp T.bl_figured .nil pass0 (pa_cons (pe_dget (hu_of hr) (pv 1) (pe_ix ix_tup (pv 2) pe_int (fun _ _ => rfl)) (fun _ _ => rfl)) (pa_cons (pv 1) pa_nil))))))))
  (pss_one (ps_ret pe_bl))
  pss_nil))))
 (pss_one (ps_ret pe_bl))), ?_⟩
  refine ⟨_, rfl, v, ts, _, _, _, rfl, hR, hT, hc, fun F us H1 s1 nF hF hus => ?_⟩
  refine ⟨F, rfl, ⟨_, SqL.of hF⟩, ?_⟩
  have cl := things_calls8 ts _ _ scOk_n hT
  refine for_list (xs := us) (fun i σ H' => (∃ x2, σ = [some v, some (.ref pd), x2]) ∧ Same H1 H') ⟨⟨_, rfl⟩, Same.refl H1⟩ (fun i σ H' _ hP => SqL.of (hP.2 _ _ hF)) (fun i x σ H2 hx hP2 => ?_) (fun σ H2 hP2 => ?_)
  · obtain ⟨⟨x2, rfl⟩, s2⟩ := hP2
    obtain ⟨t, ht, hRt0⟩ := rpl_things hus hx
    have hRt := hRt0.to (Imm.same s2)
    obtain ⟨b, ws, rfl, hb⟩ := rp_kind hRt
    refine ⟨_, rfl, b, _, 0, _, rfl, rfl, SqT.of hb, atI_nat (j := 0) rfl, rfl, _, rfl, ite2 (fun c => ?_) (fun c => ?_)⟩
    · exact q _ H2 (s1.trans s2)
    refine ⟨_, rfl, b, _, 0, _, rfl, rfl, SqT.of hb, atI_nat (j := 0) rfl, rfl, _, rfl, ite2 (fun c => ?_) (fun c => ⟨⟨_, rfl⟩, s2⟩)⟩
    obtain ⟨x, e, rfl⟩ := kind_call (V.str.inj (of_decide_eq_true c))
    obtain ⟨hC, sc, hsc, hE⟩ := cl _ (List.mem_of_getElem? ht)
    obtain ⟨b2, v1, v2, v3, eb, hb2, rfl, rfl, h3⟩ := rp_t3 hRt
    cases eb
    refine ⟨_, rfl, b, _, 2, _, rfl, rfl, SqT.of hb2, atI_nat (j := 2) rfl, (by show 2 ≤ sizeLine; decide), fun p np => ?_⟩
    have s3 := same_new (o := .tup [.str "n", .int 0]) np
    have py := end_py hsc hE
    have sh : SeqAt.shaped (toPy (encE e)) = true := by
      unfold SeqAt.shaped
      rw [py.1, py.2]
      rfl
    refine ⟨_, _, rp_dp _ _ (h3.to (Imm.same s3)), rp_dp (.tup [.str "n", .int 0]) _ (rp_tup upd_same (rpl_cons rfl (rpl_cons rfl rpl_nil))), sh, (by decide +kernel), _, rfl, ite2 (fun c2 => ?_) (fun c2 => ⟨⟨_, rfl⟩, s2.trans s3⟩)⟩
    cases d with
    | zero => exact hC.elim
    | succ d =>
    obtain ⟨tx, hPl, hTx, hcx, _⟩ := hC
    have sA := (s1.trans s2).trans s3
    obtain ⟨kvs, p1, p2⟩ := (plat_same hP sA)
    obtain ⟨vx, p3, p4⟩ := p2 x tx hPl
    have gd := rd_get (k := .inr x) p1
    rw [p3] at gd
    refine ⟨_, rfl, _, rfl, b, _, 1, _, rfl, rfl, SqT.of (s3 _ _ hb2), atI_nat (j := 1) rfl, pd, _, rfl, gd, _, rfl, vx, pd, Pl, tx, rfl, (plat_same hP sA), p4, hTx, hcx, fun bb H4 s4 => ?_⟩
    exact ⟨bb, rfl, ite2 (fun _ => q _ H4 (sA.trans s4)) (fun _ => ⟨⟨_, rfl⟩, (s2.trans s3).trans s4⟩)⟩
  · exact q _ H2 (s1.trans hP2.2)
theorem fn_no8 {f : Addr} {fd : FuncData} {k : Nat} {ps : List Str} : FnOk P w K mg base CX0 k f fd ps (fun _ _ _ _ => False) :=
  ⟨fun _ _ _ _ h => h.elim, fun _ _ _ _ _ _ _ _ _ _ _ _ _ h => h.elim⟩
theorem ok_fig_all (T : Tops w K mg) : ∀ d : Nat, FnOk P w K mg base CX0 (7 + d) T.fl_figured T.dl_figured ["_law_plan", "_law_plans"] (spFig d)
  | 0 => ok_figured T 0 6 fn_no8 (by omega)
  | d + 1 => ok_figured T (d + 1) (7 + d) (ok_fig_all T d) (by omega)
end
end K08

set_option Elab.async false
set_option linter.all false
set_option maxRecDepth 100000
set_option maxHeartbeats 4000000
namespace K08
open PySem PySem.Spec PyProof.Rows L2 OG
open C8 (pss_cut pe_gc)

section
variable {P : Program} {w : World} {K : PySem.W.Frag} {mg : Str → Option Value} {base : Heap}
theorem ok_l_calls (T : Tops w K mg) (n : Nat) : FnOk P w K mg base CX0 (n + 3) T.fl_calls T.dl_calls ["_law_plan"] (spCalls n) := by
  have Gl_every : FnOk P w K mg base CX0 (n + 2) T.fl_every T.dl_every ["_law_plan"] (spEvery n) := ok_l_everys T n
  refine T.Fl_calls.ok (k := n + 2) scl_calls (fun vs H Q E h => ?_) (fun cdv A outer s H vs Q E hr h => ?_)
  · obtain ⟨v, ts, C, A', sc, rfl, _⟩ := h
    rfl
  obtain ⟨v, ts, C, A', sc, rfl, hR, hT, hc, q⟩ := h
  refine ⟨_, (pss_cons (ps_set (i := 1) scl_calls.nd rfl (Or.inl rfl) (pe_lst pa_nil))
 (pss_cons (ps_for PassesOwn.never rfl (pi_list (pe_call Gl_every (hr.mono (by omega)) (by rfl) T.gl_every T.Fl_every.kp T.bl_every .nil pass0 (pa_cons (pv 0) pa_nil))) (pg_name (i := 2) scl_calls.nd rfl (Or.inl rfl))
  (pss_one (ps_if (PW.pt (pw_and (pt_cmpR op_eq (pe_ix ix_tup (pv 2) pe_int (fun _ _ => rfl)) pe_str (nomark _)) (pw_and1 (pt_cmpR op_notIn_seq (pe_ix ix_tup (pv 2) pe_int (fun _ _ => rfl)) (pv 1) (by rfl)))))
  (pss_one (ps_expr (pe_bm PySem.F.plainAttrs_list PySem.F.slot_list_append PySem.F.type_list_append mt_append (pv 1) (pa_cons (pe_ix ix_tup (pv 2) pe_int (fun _ _ => rfl)) pa_nil))))
  pss_nil)))
 (pss_one (ps_ret (pv 1))))), ?_⟩
  refine ⟨Nat.zero_le _, fun F nF => ?_⟩
  have s0 : Same H (upd H F (.lst [])) := same_new nF
  refine ⟨_, rfl, v, ts, C, A', sc, rfl, hR.to (Imm.same s0), hT, hc, fun B us H1 s1 nB hB hRB => ?_⟩
  refine ⟨B, rfl, ⟨_, SqL.of hB⟩, ?_⟩
  have nBF : B ≠ F := (ne_of_none upd_same nB).symm
  have lu := hRB.length
  rw [encs_length] at lu
  have lu2 : us.length ≤ 1000 := by rw [lu, everyB_len]; exact hc
  refine for_list (xs := us) (fun i σ H' => (∃ x2, σ = [some v, some (.ref F), x2]) ∧ Same H H' ∧ H' B = some (.lst us) ∧ RpL H' us (encs (everyB ts)) ∧ H' F = some (.lst ((((everyB ts).take i).foldl addC []).map V.str)))
    ⟨⟨_, rfl⟩, s0.trans s1, hB, hRB, s1 _ _ upd_same⟩ (fun i σ H' _ hP => SqL.of hP.2.2.1) (fun i x σ H2 hx hP => ?_) (fun σ H2 hP => ?_)
  · obtain ⟨⟨x2, rfl⟩, s2, hB2, hR2, hF2⟩ := hP
    obtain ⟨t, ht, hRt⟩ := rpl_things hR2 hx
    have step : ((everyB ts).take (i + 1)).foldl addC [] = addC (((everyB ts).take i).foldl addC []) t := by
      rw [List.take_add_one, ht, List.foldl_append]
      rfl
    have hacc : (((everyB ts).take i).foldl addC []).length ≤ 1000 := by
      have h1 := foldC_len ((everyB ts).take i) []
      rw [List.length_take] at h1
      have : (everyB ts).length ≤ 1000 := by rw [everyB_len]; exact hc
      simp only [List.length_nil] at h1
      omega
    by_cases hk : kindT t = "call"
    · obtain ⟨y, e, rfl⟩ := kind_call hk
      obtain ⟨a, v1, v2, v3, rfl, ha, rfl, rfl, h3⟩ := rp_t3 hRt
      refine ⟨_, rfl, a, _, 0, _, rfl, rfl, SqT.of ha, rfl, rfl, _, rfl, ite2 (fun _ => ?_) (fun z => absurd (by decide +kernel) z)⟩
      refine ⟨_, rfl, a, _, 1, _, rfl, rfl, SqT.of ha, rfl, _, rfl, F, _, rfl, .inl (SqL.of hF2), rfl, flat_strs _, _, rfl, ite2 (fun c => ?_) (fun c => ?_)⟩
      · have c3 : (!inV (.str y) ((((everyB ts).take i).foldl addC []).map V.str)) = true := c
        rw [inV_str] at c3
        have hy : y ∉ ((everyB ts).take i).foldl addC [] := fun hm => by
          rw [decide_eq_true hm] at c3
          cases c3
        refine ⟨_, rfl, .inl ⟨rfl, _, SqL.of hF2⟩, _, rfl, a, _, 1, _, rfl, rfl, SqT.of ha, rfl, F, _, _, rfl, rfl, hF2, szl (by rw [List.length_map]; omega), ?_⟩
        have i2 : Imm H2 (upd H2 F (.lst ((((everyB ts).take i).foldl addC []).map V.str ++ [.str y]))) := (Imm.refl H2).upd fun xs e => by rw [hF2] at e; cases e
        refine ⟨⟨_, rfl⟩, Same.upd_new s2 nF, ?_, hR2.to i2, ?_⟩
        · rw [upd_ne nBF]
          exact hB2
        · rw [upd_same, step]
          show some (HO.lst _) = some (HO.lst ((if y ∈ ((everyB ts).take i).foldl addC [] then _ else _ ++ [y]).map V.str))
          rw [if_neg hy, List.map_append]
          rfl
      · have c3 : (!inV (.str y) ((((everyB ts).take i).foldl addC []).map V.str)) = false := Bool.eq_false_iff.mpr c
        rw [inV_str] at c3
        have hy : y ∈ ((everyB ts).take i).foldl addC [] := by
          by_cases hm : y ∈ ((everyB ts).take i).foldl addC []
          · exact hm
          · rw [decide_eq_false hm] at c3
            cases c3
        refine ⟨⟨_, rfl⟩, s2, hB2, hR2, ?_⟩
        rw [hF2, step]
        show some (HO.lst _) = some (HO.lst ((if y ∈ ((everyB ts).take i).foldl addC [] then _ else _ ++ [y]).map V.str))
        rw [if_pos hy]
    · obtain ⟨a, vs2, rfl, ha⟩ := rp_kind hRt
      refine ⟨_, rfl, a, _, 0, _, rfl, rfl, SqT.of ha, atI_nat (j := 0) rfl, rfl, _, rfl, ite2 (fun z => absurd (V.str.inj (of_decide_eq_true z)) hk) (fun _ => ?_)⟩
      refine ⟨⟨_, rfl⟩, s2, hB2, hR2, ?_⟩
      rw [hF2, step, addC_no hk]
  · obtain ⟨⟨x2, rfl⟩, s2, hB2, hR2, hF2⟩ := hP
    rw [lu, List.take_length] at hF2
    exact ⟨_, rfl, q F H2 s2 nF hF2⟩
end
end K08

set_option Elab.async false
set_option linter.all false
set_option maxRecDepth 100000
set_option maxHeartbeats 4000000
namespace K08
open PySem PySem.Spec PyProof.Rows L2 OG
open C8 (pss_cut pe_gc)

section
variable {P : Program} {w : World} {K : PySem.W.Frag} {mg : Str → Option Value} {base : Heap}
theorem mem_calls8 : ∀ (us : List Thing) (acc : List Str) (x : Str), x ∈ us.foldl addC acc → x ∈ acc ∨ ∃ e, Thing.call x e ∈ us
  | [], acc, x, h => .inl h
  | t :: r, acc, x, h => by
    rcases mem_calls8 r (addC acc t) x h with h1 | ⟨e, h1⟩
    · cases t with
      | call y e =>
        have h2 : x ∈ (if y ∈ acc then acc else acc ++ [y]) := h1
        split at h2
        · exact .inl h2
        · rcases List.mem_append.mp h2 with h3 | h3
          · exact .inl h3
          · rw [List.mem_singleton.mp h3]
            exact .inr ⟨e, List.mem_cons_self⟩
      | step _ => exact .inl h1
      | loop _ _ _ _ => exact .inl h1
      | test _ _ _ _ => exact .inl h1
      | twice _ => exact .inl h1
      | again _ _ => exact .inl h1
    · exact .inr ⟨e, List.mem_cons_of_mem _ h1⟩
theorem fold_len8 : ∀ (us : List Thing) (acc : List Str), (us.foldl addC acc).length ≤ acc.length + us.length
  | [], acc => Nat.le_refl _
  | t :: r, acc => by
    have h1 := fold_len8 r (addC acc t)
    have h2 := addC_len acc t
    show (r.foldl addC (addC acc t)).length ≤ acc.length + (r.length + 1)
    omega
def spChain (d : Nat) : Sp := fun vs H Q _ => ∃ (v : V) (pd : Addr) (Pl : Pls) (ts : List Thing), vs = [v, .ref pd] ∧ PlAt H pd Pl ∧ Rp H v (.tup (encs ts)) ∧ TsOk (Rk Pl d) True ["n"] 4 ts ∧ cntB ts ≤ 1000 ∧ ∀ m H', Same H H' → Q (.int m) H'
def prevCh : Nat → Sp
  | 0 => fun _ _ _ _ => False
  | d + 1 => spChain d
theorem ok_chain (T : Tops w K mg) (d k : Nat) (Gl_chain : FnOk P w K mg base CX0 k T.fl_chain T.dl_chain ["_law_plan", "_law_plans"] (prevCh d)) (hk : 7 ≤ k) : FnOk P w K mg base CX0 (k + 1) T.fl_chain T.dl_chain ["_law_plan", "_law_plans"] (spChain d) := by
  have Gl_calls : FnOk P w K mg base CX0 7 T.fl_calls T.dl_calls ["_law_plan"] (spCalls 4) := ok_l_calls T 4
  refine T.Fl_chain.ok (k := k) scl_chain (fun vs H Q E h => ?_) (fun cdv A outer s H vs Q E hr h => ?_)
  · obtain ⟨v, pd, Pl, ts, rfl, _⟩ := h
    rfl
  obtain ⟨v, pd, Pl, ts, rfl, hP, hR, hT, hc, q⟩ := h
  refine ⟨_, (pss_one (ps_ret (pe_op op_add pe_int (pe_callB (cr_max rfl) (by rfl) T.mmax (by decide +kernel) (pa_cons (pe_op op_cat (pe_lst (pa_cons pe_int pa_nil)) (pe_lc (own := [("_law_name", 2)]) rfl scl_chain.nd (pi_list (pe_call Gl_calls (hr.mono (by omega)) (by rfl) T.gl_calls T.Fl_calls.kp T.bl_calls .nil pass0 (pa_cons (pv 0) pa_nil))) (blkOk_by (N := Nl_chain) (sc := defScope sl_chain) (by decide +kernel)) (fun _ _ _ _ _ => (pg_name (i := 2) scl_chain.nd rfl (Or.inl rfl))) (fun _ _ _ _ _ => pts_nil) (fun _ _ _ _ _ => (pe_call Gl_chain (hr.mono (by omega)) (by rfl) T.gl_chain T.Fl_chain.kp T.bl_chain .nil pass0 (pa_cons (pe_dget (hu_of hr) (pv 1) (pv 2) (fun _ _ => rfl)) (pa_cons (pv 1) pa_nil)))))) pa_nil))))), ?_⟩
  refine ⟨(by show 1 ≤ sizeLine; decide), fun l nl => ?_⟩
  have s0 := same_new (o := .lst [.int 0]) nl
  refine ⟨_, rfl, v, ts, _, _, _, rfl, hR.to (Imm.same s0), hT, hc, fun F H1 s1 nF hF => ?_⟩
  have sA := s0.trans s1
  have cl := things_calls8 ts _ _ scOk_n hT
  refine ⟨F, rfl, ⟨_, SqL.of hF⟩, fun D nD => ?_⟩
  have lcs : (callsL ts).length ≤ 1000 := by
    have h1 := fold_len8 (everyB ts) []
    rw [everyB_len] at h1
    have h2 : (callsL ts).length ≤ 0 + cntB ts := h1
    omega
  refine lc_list (xs := (callsL ts).map V.str) (fun i H' => Same H1 H' ∧ ∃ ms : List Int, H' D = some (.lst (ms.map V.int)) ∧ ms.length ≤ i) ⟨same_new nD, [], upd_same, Nat.le_refl _⟩ (fun i H' _ hP => SqL.of (hP.1 _ _ hF)) (fun i x H' hx hP2 => ?_) (fun H' hP2 => ?_)
  · obtain ⟨sm, ms, hDs, hml⟩ := hP2
    obtain ⟨z, rfl, hz⟩ := mem_strs (ns := callsL ts) (List.mem_of_getElem? hx)
    have hi : i < ((callsL ts).map V.str).length := (List.getElem?_eq_some_iff.mp hx).1
    rw [List.length_map] at hi
    obtain ⟨e, he⟩ := (mem_calls8 _ _ _ hz).resolve_left (fun z => by cases z)
    obtain ⟨hC, _⟩ := cl _ he
    cases d with
    | zero => exact hC.elim
    | succ d =>
    obtain ⟨tx, hPl, hTx, hcx, _⟩ := hC
    have sB := sA.trans sm
    obtain ⟨kvs, p1, p2⟩ := plat_same hP sB
    obtain ⟨vx, p3, p4⟩ := p2 z tx hPl
    have gd := rd_get (k := .inr z) p1
    rw [p3] at gd
    refine ⟨rfl, yes_go ?_⟩
    refine ⟨_, rfl, _, rfl, pd, _, rfl, gd, _, rfl, vx, pd, Pl, tx, rfl, plat_same hP sB, p4, hTx, hcx, fun m H4 s4 => ?_⟩
    refine ⟨_, s4 _ _ hDs, szl (by rw [List.length_map]; omega), Same.upd_new (sm.trans s4) nD, ms ++ [m], ?_, by rw [List.length_append]; show ms.length + 1 ≤ i + 1; omega⟩
    rw [upd_same, List.map_append]
    rfl
  · obtain ⟨sm, ms, hDs, hml⟩ := hP2
    rw [List.length_map] at hml
    refine ⟨l, D, _, _, rfl, rfl, (s1.trans sm) _ _ upd_same, hDs, ?_, fun p2 np2 => ?_⟩
    · rw [List.length_map]
      show 1 + ms.length ≤ sizeLine
      exact sz (by omega)
    have s5 := same_new (o := .lst ([V.int 0] ++ ms.map V.int)) np2
    refine ⟨p2, 0 :: ms, rfl, SqL.of upd_same, Nat.zero_lt_succ _, fun m _ _ => ?_⟩
    exact ⟨1, m, rfl, rfl, q _ _ ((sA.trans sm).trans s5)⟩
theorem ok_chain_all (T : Tops w K mg) : ∀ d : Nat, FnOk P w K mg base CX0 (8 + d) T.fl_chain T.dl_chain ["_law_plan", "_law_plans"] (spChain d)
  | 0 => ok_chain T 0 7 fn_no8 (by omega)
  | d + 1 => ok_chain T (d + 1) (8 + d) (ok_chain_all T d) (by omega)
end
end K08

set_option Elab.async false
set_option linter.all false
set_option maxRecDepth 100000
set_option maxHeartbeats 4000000
namespace K08
open PySem PySem.Spec PyProof.Rows L2 OG
open C8 (pss_cut pe_gc)

section
variable {P : Program} {w : World} {K : PySem.W.Frag} {mg : Str → Option Value} {base : Heap}
theorem bodies_ok8 {C : Str → Prop} {A : Prop} {sc : List Str} {n : Nat} {t : Thing} (h : TOk C A sc n t) : ∀ b ∈ bodiesT t, ∃ m sc', n = m + 1 ∧ TsOk C A sc' m b ∧ cntB b ≤ cntT t := by
  intro b hb
  cases t with
  | step _ => cases hb
  | call _ _ => cases hb
  | again _ _ => cases hb
  | loop x e f c =>
    obtain ⟨_, _, _, _, _, m, em, h6⟩ := h
    rw [List.mem_singleton.mp hb]
    exact ⟨m, _, em, h6, by show cntB c ≤ 1 + cntB c; omega⟩
  | twice c =>
    obtain ⟨_, m, em, h6⟩ := h
    rw [List.mem_singleton.mp hb]
    exact ⟨m, _, em, h6, by show cntB c ≤ 1 + cntB c; omega⟩
  | test e f x y =>
    obtain ⟨_, _, _, m, em, h6, h7⟩ := h
    rcases List.mem_cons.mp hb with rfl | hb
    · exact ⟨m, _, em, h6, by show cntB b ≤ 1 + cntB b + cntB y; omega⟩
    · rw [List.mem_singleton.mp hb]
      exact ⟨m, _, em, h7, by show cntB y ≤ 1 + cntB x + cntB y; omega⟩
theorem bodies_len8 (t : Thing) : (bodiesT t).length ≤ 2 := by
  cases t <;> (show _ ≤ 2; first | exact Nat.zero_le _ | exact Nat.le_refl _ | exact Nat.le_succ _ | decide)
theorem cnt_mem8 : ∀ {ts : List Thing} {t : Thing}, t ∈ ts → cntT t ≤ cntB ts
  | [], t, h => by cases h
  | u :: r, t, h => by
    show cntT t ≤ cntT u + cntB r
    rcases List.mem_cons.mp h with rfl | h
    · omega
    · have := cnt_mem8 h
      omega
def spWt (n d : Nat) : Sp := fun vs H Q _ => ∃ (v : V) (pd : Addr) (Pl : Pls) (ts : List Thing) (sc : List Str), vs = [v, .ref pd] ∧ PlAt H pd Pl ∧ Rp H v (.tup (encs ts)) ∧ TsOk (Rk Pl d) True sc n ts ∧ cntB ts ≤ 1000 ∧ ∀ m H', Same H H' → Q (.int m) H'
def prevWt (d : Nat) : Nat → Sp
  | 0 => fun _ _ _ _ => False
  | m + 1 => spWt m d
theorem ok_wt_in (T : Tops w K mg) (n d k kw kb : Nat) (Gl_weight : FnOk P w K mg base CX0 kw T.fl_weight T.dl_weight ["_law_plan", "_law_plans"] (prevCh d)) (Gl_weight_in : FnOk P w K mg base CX0 kb T.fl_weight_in T.dl_weight_in ["_law_plan", "_law_plans"] (prevWt d n)) (h1 : 1 ≤ k) (h2 : kw ≤ k) (h3 : kb ≤ k) : FnOk P w K mg base CX0 (k + 1) T.fl_weight_in T.dl_weight_in ["_law_plan", "_law_plans"] (spWt n d) := by
  have Gl_bodies : FnOk P w K mg base CX0 1 T.fl_bodies T.dl_bodies ["_law_thing"] spBodies := ok_l_bodies T
  refine T.Fl_weight_in.ok (k := k) scl_weight_in (fun vs H Q E h => ?_) (fun cdv A outer s H vs Q E hr h => ?_)
  · obtain ⟨v, pd, Pl, ts, sc, rfl, _⟩ := h
    rfl
  obtain ⟨v, pd, Pl, ts, sc, rfl, hP, hR, hT, hc, q⟩ := h
  refine ⟨_, (pss_cons (ps_set (i := 2) scl_weight_in.nd rfl (Or.inl rfl) pe_int)
 (pss_cons (ps_for PassesOwn.never rfl (pi_tup (pv 0)) (pg_name (i := 3) scl_weight_in.nd rfl (Or.inl rfl))
  (pss_cons (ps_setLc (i := 4) (own := [("_law_body", 5)]) rfl scl_weight_in.nd rfl rfl (sw_true rfl rfl rfl (by decide +kernel)) (pi_list (pe_call Gl_bodies (hr.mono (by omega)) (by rfl) T.gl_bodies T.Fl_bodies.kp T.bl_bodies .nil pass0 (pa_cons (pv 3) pa_nil))) (blkOk_by (N := Nl_weight_in) (sc := defScope sl_weight_in) (by decide +kernel)) (fun _ _ _ _ _ => (pg_name (i := 5) scl_weight_in.nd rfl (Or.inl rfl))) (fun _ _ _ _ _ => pts_nil) (fun _ _ _ _ _ => (pe_call Gl_weight_in (hr.mono (by omega)) (by rfl) T.gl_weight_in T.Fl_weight_in.kp T.bl_weight_in .nil pass0 (pa_cons (pv 5) (pa_cons (pv 1) pa_nil)))))
 (pss_cons (ps_set (i := 4) scl_weight_in.nd rfl (Or.inl rfl) (pe_op op_add (pe_callB (cr_max rfl) (by rfl) T.mmax (by decide +kernel) (pa_cons (pe_op op_cat (pe_lst (pa_cons pe_int pa_nil)) (pv 4)) pa_nil)) (pe_callTy call_int1 (by rfl) T.mint (by decide +kernel) (pa_cons (pe_cmpR op_in_seq (pe_ix ix_tup (pv 3) pe_int (fun _ _ => rfl)) (pe_lst (pa_cons pe_str (pa_cons pe_str pa_nil))) (by rfl)) pa_nil))))
 (pss_cons (ps_if (pt_cmpR op_eq (pe_ix ix_tup (pv 3) pe_int (fun _ _ => rfl)) pe_str (nomark _))
  (pss_one (ps_set (i := 4) scl_weight_in.nd rfl (Or.inl rfl) (pe_call Gl_weight (hr.mono (by omega)) (by rfl) T.gl_weight T.Fl_weight.kp T.bl_weight .nil pass0 (pa_cons (pe_dget (hu_of hr) (pv 1) (pe_ix ix_tup (pv 3) pe_int (fun _ _ => rfl)) (fun _ _ => rfl)) (pa_cons (pv 1) pa_nil)))))
  pss_nil)
 (pss_one (ps_set (i := 2) scl_weight_in.nd rfl (Or.inl rfl) (pe_callB (call_max2 rfl) (by rfl) T.mmax (by decide +kernel) (pa_cons (pv 2) (pa_cons (pv 4) pa_nil)))))))))
 (pss_one (ps_ret (pv 2))))), ?_⟩
  obtain ⟨ta, vs, rfl, ha, hvs⟩ := id hR
  refine ⟨_, rfl, ta, rfl, ⟨_, SqT.of ha⟩, ?_⟩
  refine for_tup (xs := vs) (fun i σ H' => (∃ m x3 x4 x5, σ = [some (.ref ta), some (.ref pd), some (.int m), x3, x4, x5]) ∧ Same H H') ⟨⟨0, _, _, _, rfl⟩, Same.refl H⟩ (fun i σ H' _ hP => SqT.of (hP.2 _ _ ha)) (fun i x σ H2 hx hP2 => ?_) (fun σ H2 hP2 => ?_)
  · obtain ⟨⟨m0, x3, x4, x5, rfl⟩, s2⟩ := hP2
    obtain ⟨t, ht, hRt0⟩ := rpl_things hvs hx
    have hRt := hRt0.to (Imm.same s2)
    have hTt := (tsok_iff ts).mp hT t (List.mem_of_getElem? ht)
    have hct : cntT t ≤ 1000 := Nat.le_trans (cnt_mem8 (List.mem_of_getElem? ht)) hc
    refine ⟨_, rfl, x, t, rfl, hRt, fun F us H3 s3 nF hF hus => ?_⟩
    have s23 := s2.trans s3
    have lu := hus.length
    have lb := bodies_len8 t
    have lu2 : us.length ≤ 2 := by
      rw [lu]
      unfold encBs
      rw [List.length_map]
      exact lb
    refine ⟨F, rfl, ⟨_, SqL.of hF⟩, fun D nD => ?_⟩
    refine lc_list (xs := us) (fun j H' => Same H3 H' ∧ ∃ ms : List Int, H' D = some (.lst (ms.map V.int)) ∧ ms.length ≤ j) ⟨same_new nD, [], upd_same, Nat.le_refl _⟩ (fun j H' _ hP => SqL.of (hP.1 _ _ hF)) (fun j y H' hy hP3 => ?_) (fun H' hP3 => ?_)
    · obtain ⟨sm, ms, hDs, hml⟩ := hP3
      have hj : j < us.length := (List.getElem?_eq_some_iff.mp hy).1
      obtain ⟨b, hb, hRb⟩ := rpl_bodies hus hy
      obtain ⟨m', sc', em, hTb, hcb⟩ := bodies_ok8 hTt b (List.mem_of_getElem? hb)
      subst em
      refine ⟨rfl, yes_go ?_⟩
      refine ⟨_, rfl, _, rfl, y, pd, Pl, b, sc', rfl, plat_same hP (s23.trans sm), hRb.to (Imm.same sm), hTb, by omega, fun m1 H5 s5 => ?_⟩
      refine ⟨_, s5 _ _ hDs, szl (by rw [List.length_map]; omega), Same.upd_new (sm.trans s5) nD, ms ++ [m1], ?_, by rw [List.length_append]; show ms.length + 1 ≤ j + 1; omega⟩
      rw [upd_same, List.map_append]
      rfl
    obtain ⟨sm, ms, hDs, hml⟩ := hP3
    have sB := s23.trans sm
    obtain ⟨b, ws, rfl, hb⟩ := rp_kind (hRt.to (Imm.same (s3.trans sm)))
    refine ⟨(by show 1 ≤ sizeLine; decide), fun l nl => ?_⟩
    have s5 := same_new (o := .lst [.int 0]) nl
    refine ⟨_, rfl, l, D, _, _, rfl, rfl, upd_same, s5 _ _ hDs, ?_, fun p2 np2 => ?_⟩
    · rw [List.length_map]
      show 1 + ms.length ≤ sizeLine
      exact sz (by omega)
    have s6 := same_new (o := .lst ([V.int 0] ++ ms.map V.int)) np2
    have sC := (sB.trans s5).trans s6
    refine ⟨p2, 0 :: ms, rfl, SqL.of upd_same, Nat.zero_lt_succ _, fun m1 _ _ => ?_⟩
    have hb6 := (s5.trans s6) _ _ hb
    refine ⟨_, rfl, b, _, 0, _, rfl, rfl, SqT.of hb6, atI_nat (j := 0) rfl, (by show 2 ≤ sizeLine; decide), fun l3 nl3 => ?_⟩
    have s7 := same_new (o := .lst [.str "for", .str "double"]) nl3
    have sD := sC.trans s7
    refine ⟨l3, _, rfl, .inl (SqL.of upd_same), rfl, rfl, .inr ⟨_, rfl, m1, _, rfl, rfl, ?_⟩⟩
    refine ⟨_, rfl, b, _, 0, _, rfl, rfl, SqT.of (s7 _ _ hb6), atI_nat (j := 0) rfl, rfl, _, rfl, ite2 (fun c => ?_) (fun c => ?_)⟩
    · obtain ⟨x, e, rfl⟩ := kind_call (V.str.inj (of_decide_eq_true c))
      obtain ⟨_, hC, _⟩ := hTt
      obtain ⟨b2, w1, w2, w3, eb, hb2, rfl, rfl, _⟩ := rp_t3 (hRt0.to (Imm.same sD))
      cases eb
      cases d with
      | zero => exact hC.elim
      | succ d =>
      obtain ⟨tx, hPl, hTx, hcx, _⟩ := hC
      obtain ⟨kvs, p1, p2⟩ := plat_same hP sD
      obtain ⟨vx, p3, p4⟩ := p2 x tx hPl
      have gd := rd_get (k := .inr x) p1
      rw [p3] at gd
      refine ⟨_, rfl, _, rfl, b, _, 1, _, rfl, rfl, SqT.of hb2, atI_nat (j := 1) rfl, pd, _, rfl, gd, _, rfl, vx, pd, Pl, tx, rfl, plat_same hP sD, p4, hTx, hcx, fun m2 H8 s8 => ?_⟩
      exact ⟨_, rfl, _, rfl, _, _, rfl, ⟨_, _, _, _, rfl⟩, sD.trans s8⟩
    · exact ⟨_, rfl, _, rfl, _, _, rfl, ⟨_, _, _, _, rfl⟩, sD⟩
  · obtain ⟨⟨m0, x3, x4, x5, rfl⟩, s2⟩ := hP2
    exact ⟨_, rfl, q _ H2 s2⟩
end
end K08

set_option Elab.async false
set_option linter.all false
set_option maxRecDepth 100000
set_option maxHeartbeats 4000000
namespace K08
open PySem PySem.Spec PyProof.Rows L2 OG
open C8 (pss_cut pe_gc)

section
variable {P : Program} {w : World} {K : PySem.W.Frag} {mg : Str → Option Value} {base : Heap}
theorem ok_some_end (T : Tops w K mg) : FnOk P w K mg base CX0 3 T.fl_some_end T.dl_some_end ["_law_draw", "_law_scope", "_law_wide"] spSomeEnd := by
  have Gl_take : FnOk P w K mg base CX0 1 T.fl_take T.dl_take ["_law_draw", "_law_sides"] spTake := ok_take T
  have Gl_pick : FnOk P w K mg base CX0 2 T.fl_pick T.dl_pick ["_law_draw", "_law_row"] (spPick K) := ok_pick T
  refine T.Fl_some_end.ok (k := 2) scl_some_end (fun vs H Q E h => ?_) (fun cdv A outer s H vs Q E hr h => ?_)
  · obtain ⟨d, L, sc, ns, wide, rfl, _⟩ := h
    rfl
  obtain ⟨d, L, sc, ns, wide, rfl, hD, hsc, nsd, hne, hlen, q⟩ := h
  refine ⟨_, (pss_cons (ps_set (i := 3) scl_some_end.nd rfl (Or.inl rfl) (pe_ix ix_list (pe_lst (pa_cons pe_int (pa_cons (pe_call Gl_take (hr.mono (by omega)) (by rfl) T.gl_take T.Fl_take.kp T.bl_take .nil pass0 (pa_cons (pv 0) (pa_cons pe_int pa_nil))) (pa_cons (pe_call Gl_take (hr.mono (by omega)) (by rfl) T.gl_take T.Fl_take.kp T.bl_take .nil pass0 (pa_cons (pv 0) (pa_cons (pe_ix ix_list (pe_lst (pa_cons pe_int (pa_cons pe_int pa_nil))) (pe_callTy call_int1 (by rfl) T.mint (by decide +kernel) (pa_cons (pv 2) pa_nil)) (fun _ _ => rfl)) pa_nil))) pa_nil)))) (pe_call Gl_take (hr.mono (by omega)) (by rfl) T.gl_take T.Fl_take.kp T.bl_take .nil pass0 (pa_cons (pv 0) (pa_cons pe_int pa_nil))) (fun _ _ => rfl)))
 (pss_cons (ps_if (pt_cmpR op_eq (pe_call Gl_take (hr.mono (by omega)) (by rfl) T.gl_take T.Fl_take.kp T.bl_take .nil pass0 (pa_cons (pv 0) (pa_cons pe_int pa_nil))) pe_int (nomark _))
  (pss_one (ps_ret (pe_tup (pa_cons pe_str (pa_cons (pv 3) pa_nil)))))
  pss_nil)
 (pss_one (ps_ret (pe_tup (pa_cons (pe_call Gl_pick (hr.mono (by omega)) (by rfl) T.gl_pick T.Fl_pick.kp T.bl_pick .nil pass0 (pa_cons (pv 0) (pa_cons (pv 1) pa_nil))) (pa_cons (pe_op op_mul (pv 3) (pe_ix ix_list (pe_lst (pa_cons pe_int (pa_cons (pe_un un_neg pe_int) pa_nil))) (pe_call Gl_take (hr.mono (by omega)) (by rfl) T.gl_take T.Fl_take.kp T.bl_take .nil pass0 (pa_cons (pv 0) (pa_cons pe_int pa_nil))) (fun _ _ => rfl))) pa_nil))))))), ?_⟩
  -- more
  refine ⟨_, rfl, d, L, 5, rfl, hD, by decide, by decide, fun g1 H1 a1 b1 hD1 hB1 => ?_⟩
  have G1 : Go (· = d) H H1 := Go.but hD hB1 rfl
  refine ⟨_, rfl, (by show 2 ≤ sizeLine; decide), fun l nl => ?_⟩
  have hw : ∃ k : Int, atI [V.int 5, .int 100] (if wide = true then 1 else 0) = some (.int k) ∧ 1 ≤ k ∧ k ≤ 100 := by
    cases wide
    · exact ⟨5, rfl, by decide, by decide⟩
    · exact ⟨100, rfl, by decide, by decide⟩
  obtain ⟨kw, hkw, kw1, kw2⟩ := hw
  refine ⟨_, rfl, .inr ⟨wide, rfl, l, _, _, _, rfl, rfl, SqL.of upd_same, hkw, d, L, kw, rfl, hD1.new nl, kw1, by omega, fun g2 H2 a2 b2 hD2 hB2 => ?_⟩⟩
  have G2 : Go (· = d) H H2 := (G1.new nl).trans (Go.but (hD1.new nl) hB2 rfl)
  refine ⟨(by show 3 ≤ sizeLine; decide), fun l2 nl2 => ?_⟩
  refine ⟨_, rfl, d, L, 3, rfl, hD2.new nl2, by decide, by decide, fun g3 H3 a3 b3 hD3 hB3 => ?_⟩
  have G3 : Go (· = d) H H3 := (G2.new nl2).trans (Go.but (hD2.new nl2) hB3 rfl)
  have hl2 : H3 l2 = some (.lst [.int 0, .int g1, .int g2]) := by
    rw [hB3 l2 (hD2.neNew nl2).1]
    exact upd_same
  obtain ⟨v, hv, hm⟩ := atI_lt (xs := [V.int 0, .int g1, .int g2]) a3 b3
  obtain ⟨m, rfl, hm2⟩ := mem_ints3 hm
  have m0 : 0 ≤ m ∧ m ≤ 99 := by omega
  refine ⟨l2, _, g3, _, rfl, rfl, SqL.of hl2, hv, ?_⟩
  -- if take(draw, 3) == 0
  refine ⟨_, rfl, d, L, 3, rfl, hD3, by decide, by decide, fun g4 H4 a4 b4 hD4 hB4 => ?_⟩
  have G4 : Go (· = d) H H4 := G3.trans (Go.but hD3 hB4 rfl)
  refine ⟨rfl, _, rfl, ite2 (fun c1 => ?_) (fun c1 => ?_)⟩
  · refine ⟨_, rfl, (by show 2 ≤ sizeLine; decide), fun p np => ?_⟩
    exact q _ ("", m) _ (rp_tup upd_same (rpl_cons rfl (rpl_cons rfl rpl_nil))) (.inl ⟨rfl, m0.1, m0.2⟩) (hD4.new np) (G4.new np)
  · have hsc4 := G4.at hsc nsd
    have hpos : 0 < ns.length := List.length_pos_iff.mpr hne
    refine ⟨_, rfl, _, rfl, d, L, _, ns.length, rfl, hD4, hpos, by omega, .inr ⟨sc, ns.map V.str, rfl, nsd, SqL.of hsc4, List.length_map _, fun y H5 hy hD5 hB5 => ?_⟩⟩
    obtain ⟨x, rfl, hx⟩ := mem_strs hy
    have G5 : Go (· = d) H H5 := G4.trans (Go.but hD4 hB5 rfl)
    refine ⟨_, rfl, 1, rfl, (by show 2 ≤ sizeLine; decide), fun l3 nl3 => ?_⟩
    refine ⟨_, rfl, d, L, 2, rfl, hD5.new nl3, by decide, by decide, fun g6 H6 a6 b6 hD6 hB6 => ?_⟩
    have G6 : Go (· = d) H H6 := (G5.new nl3).trans (Go.but (hD5.new nl3) hB6 rfl)
    have hl3 : H6 l3 = some (.lst [.int 1, .int (-1)]) := by
      rw [hB6 l3 (hD5.neNew nl3).1]
      exact upd_same
    obtain ⟨v2, hv2, hmm⟩ := atI_lt (xs := [V.int 1, .int (-1)]) a6 b6
    obtain ⟨s2, rfl, hs2⟩ := mem_ints2 hmm
    refine ⟨l3, _, g6, _, rfl, rfl, SqL.of hl3, hv2, m, s2, rfl, rfl, .inl ⟨by omega, by omega⟩, ?_⟩
    refine ⟨(by show 2 ≤ sizeLine; decide), fun p np => ?_⟩
    have b1 : -99 ≤ m * s2 ∧ m * s2 ≤ 99 := by
      rcases hs2 with rfl | rfl
      · omega
      · omega
    exact q _ (x, m * s2) _ (rp_tup upd_same (rpl_cons rfl (rpl_cons rfl rpl_nil))) (.inr ⟨hx, b1.1, b1.2⟩) (hD6.new np) (G6.new np)
theorem ok_fresh (T : Tops w K mg) : FnOk P w K mg base CX0 3 T.fl_fresh T.dl_fresh ["_law_draw", "_law_taken"] spFresh := by
  have Gl_take : FnOk P w K mg base CX0 1 T.fl_take T.dl_take ["_law_draw", "_law_sides"] spTake := ok_take T
  have Gl_pick : FnOk P w K mg base CX0 2 T.fl_pick T.dl_pick ["_law_draw", "_law_row"] (spPick K) := ok_pick T
  have Gl_kept_words : FnOk P w K mg base CX0 1 T.fl_kept_words T.dl_kept_words [] spKept := ok_kept T
  refine T.Fl_fresh.ok (k := 2) scl_fresh (fun vs H Q E h => ?_) (fun cdv A outer s H vs Q E hr h => ?_)
  · obtain ⟨d, L, sc, ns, rfl, _⟩ := h
    rfl
  obtain ⟨d, L, sc, ns, rfl, hD, hsc, nsd, hlen, q⟩ := h
  refine ⟨_, (pss_cons (ps_set (i := 2) scl_fresh.nd rfl (Or.inl rfl) (pe_ix ix_list (pe_lst (pa_cons pe_int (pa_cons pe_int (pa_cons pe_int (pa_cons pe_int (pa_cons pe_int (pa_cons (pe_op op_add pe_int (pe_call Gl_take (hr.mono (by omega)) (by rfl) T.gl_take T.Fl_take.kp T.bl_take .nil pass0 (pa_cons (pv 0) (pa_cons pe_int pa_nil)))) pa_nil))))))) (pe_call Gl_take (hr.mono (by omega)) (by rfl) T.gl_take T.Fl_take.kp T.bl_take .nil pass0 (pa_cons (pv 0) (pa_cons pe_int pa_nil))) (fun _ _ => rfl)))
 (pss_cons (ps_set (i := 3) scl_fresh.nd rfl (Or.inl rfl) (pe_join pe_str (pe_lc (own := [("_law_k", 6)]) rfl scl_fresh.nd (pi_range1 (by rfl) T.mrange (pa_cons (pv 2) pa_nil)) (blkOk_by (N := Nl_fresh) (sc := defScope sl_fresh) (by decide +kernel)) (fun _ _ _ _ _ => (pg_name (i := 6) scl_fresh.nd rfl (Or.inl rfl))) (fun _ _ _ _ _ => pts_nil) (fun _ _ _ _ _ => (pe_call Gl_pick (hr.mono (by omega)) (by rfl) T.gl_pick T.Fl_pick.kp T.bl_pick .nil pass0 (pa_cons (pv 0) (pa_cons pe_str pa_nil)))))))
 (pss_cut (ps_if (PW.pt (pw_and (pt_cmpR op_notIn_seq (pv 3) (pv 1) (by rfl)) (pw_and1 (pt_cmpR op_notIn_seq (pv 3) (pe_call0 Gl_kept_words (hr.mono (by omega)) (by rfl) T.gl_kept_words T.Fl_kept_words.kp T.bl_kept_words .nil pass0) (by rfl)))))
  (pss_one (ps_ret (pv 3)))
  pss_nil)
 (pss_cons (ps_setLc (i := 4) (own := [("_law_sign", 5)]) rfl scl_fresh.nd rfl rfl (sw_true rfl rfl rfl (by decide +kernel)) (pi_str pe_str) (blkOk_by (N := Nl_fresh) (sc := defScope sl_fresh) (by decide +kernel)) (fun _ _ _ _ _ => (pg_name (i := 5) scl_fresh.nd rfl (Or.inl rfl))) (fun _ _ _ _ _ => pts_nil) (fun _ _ _ _ _ => (pe_op op_repS (pv 5) pe_int)))
 (pss_one (ps_ret (pe_ix ix_list (pe_lc (own := [("_law_one", 7)]) rfl scl_fresh.nd (pi_list (pv 4)) (blkOk_by (N := Nl_fresh) (sc := defScope sl_fresh) (by decide +kernel)) (fun _ _ _ _ _ => (pg_name (i := 7) scl_fresh.nd rfl (Or.inl rfl))) (fun _ _ _ _ _ => (pts_one (pt_cmpR (op_notIn_seqK (K := K) rfl) (pv 7) (pv 1) (by rfl)))) (fun _ _ _ _ _ => (pv 7))) pe_int (fun _ _ => rfl)))))))), ?_⟩
  -- size
  refine ⟨_, rfl, d, L, 8, rfl, hD, by decide, by decide, fun g1 H1 a1 b1 hD1 hB1 => ?_⟩
  have G1 : Go (· = d) H H1 := Go.but hD hB1 rfl
  refine ⟨1, g1, rfl, rfl, (by show 6 ≤ sizeLine; decide), fun l nl => ?_⟩
  refine ⟨_, rfl, d, L, 6, rfl, hD1.new nl, by decide, by decide, fun g2 H2 a2 b2 hD2 hB2 => ?_⟩
  have G2 : Go (· = d) H H2 := (G1.new nl).trans (Go.but (hD1.new nl) hB2 rfl)
  have hl : H2 l = some (.lst [.int 1, .int 1, .int 2, .int 3, .int 8, .int (1 + g1)]) := by
    rw [hB2 l (hD1.neNew nl).1]
    exact upd_same
  obtain ⟨v, hv, hm⟩ := atI_lt (xs := [V.int 1, .int 1, .int 2, .int 3, .int 8, .int (1 + g1)]) a2 b2
  obtain ⟨m, rfl, hm2⟩ := mem_ints (ns := [1, 1, 2, 3, 8, 1 + g1]) hm
  have m1 : 1 ≤ m ∧ m ≤ 8 := by
    simp only [List.mem_cons, List.not_mem_nil, or_false] at hm2
    omega
  refine ⟨l, _, g2, _, rfl, rfl, SqL.of hl, hv, ?_⟩
  -- name
  refine ⟨⟨_, rfl⟩, _, rfl, m, rfl, by omega, by omega, fun Dn nD => ?_⟩
  refine lc_range (lo := 0) (n := m.toNat) (fun i H' => Dr H' d L ∧ Go (· = d) H H' ∧ ∃ cs : List Nat, cs.length = i ∧ (∀ c ∈ cs, c ∈ abc) ∧ H' Dn = some (.lst ((cs.map fun c => S [c]).map V.str))) ⟨hD2.new nD, G2.new nD, [], rfl, (fun _ h => by cases h), upd_same⟩ (fun j H4 hj hP => ?_) (fun H4 hP => ?_)
  · obtain ⟨hD4, G4, cs, hcs, hab, hl4⟩ := hP
    refine ⟨rfl, yes_go ?_⟩
    refine ⟨_, rfl, d, L, _, 26, rfl, hD4, by decide, by decide, .inl ⟨_, rfl, by decide +kernel, fun c H5 hc hD5 hB5 => ?_⟩⟩
    have nDd := hD2.neNew nD
    have hl5 : H5 Dn = some (.lst ((cs.map fun c => S [c]).map V.str)) := by
      rw [hB5 Dn nDd.1]
      exact hl4
    have nH : H Dn = none := G2.free nD nDd.1
    refine ⟨_, hl5, ?_, hD5.upd nDd.1 nDd.2, (G4.trans (Go.but hD4 hB5 rfl)).own nH, cs ++ [c], ?_, ?_, ?_⟩
    · rw [List.length_map, List.length_map]
      exact szl (by omega)
    · rw [List.length_append, hcs]
      rfl
    · intro x hx
      rcases List.mem_append.mp hx with h1 | h1
      · exact hab x h1
      · rw [List.mem_singleton.mp h1]
        exact hc
    · rw [upd_same, List.map_append, List.map_append]
      rfl
  · obtain ⟨hD4, G4, cs, hcs, hab, hl4⟩ := hP
    refine ⟨_, Dn, cs.map fun c => S [c], rfl, rfl, .inl (SqL.of hl4), ?_, ?_⟩
    · rw [sum_ones, List.length_map]
      have : ("" : Str).length = 0 := by decide +kernel
      rw [this]
      omega
    rw [join_signs]
    have hsc4 := G4.at hsc nsd
    have hcl : 1 ≤ cs.length ∧ cs.length ≤ 8 := by omega
    have flat : ∀ zs : List Str, (zs.map V.str).all flatV = true := fun zs => by
      rw [List.all_eq_true]
      intro x hx
      obtain ⟨z, _, rfl⟩ := List.mem_map.mp hx
      rfl
    refine ⟨fun σ' H' => (∃ x2 x3 x4 x5 x6 x7, σ' = [some (.ref d), some (.ref sc), x2, x3, x4, x5, x6, x7]) ∧ Dr H' d L ∧ Go (· = d) H H', ?_, ?_⟩
    · refine ⟨_, rfl, _, rfl, sc, _, rfl, .inl (SqL.of hsc4), rfl, flat ns, _, rfl, ite2 (fun c1 => ?_) (fun c1 => ?_)⟩
      · refine ⟨_, rfl, rfl, fun p H5 np e5 => ?_⟩
        subst e5
        refine ⟨p, _, rfl, .inl (SqL.of upd_same), rfl, flat kept, _, rfl, ite2 (fun c2 => ?_) (fun c2 => ?_)⟩
        · have n1 : S cs ∉ ns := fun hn => by
            have c3 : (!inV (.str (S cs)) (ns.map V.str)) = true := c1
            rw [inV_str, decide_eq_true hn] at c3
            cases c3
          have n2 : S cs ∉ kept := fun hn => by
            have c3 : (!inV (.str (S cs)) (kept.map V.str)) = true := c2
            rw [inV_str, decide_eq_true hn] at c3
            cases c3
          exact ⟨_, rfl, q _ _ (name_of hcl.1 hcl.2 n2 hab) n1 (hD4.new np) (G4.new np)⟩
        · exact ⟨⟨_, _, _, _, _, _, rfl⟩, hD4.new np, G4.new np⟩
      · exact ⟨⟨_, _, _, _, _, _, rfl⟩, hD4, G4⟩
    · rintro σ' H5 ⟨⟨x2, x3, x4, x5, x6, x7, rfl⟩, hD5, G5⟩
      -- spare
      refine ⟨_, rfl, fun Sp nS => ?_⟩
      refine lc_str_val (fun c => .str (S [c, c])) 5 rfl (fun v => rfl) (by decide +kernel) nS (fun c _ H2 Q2 _ h => ⟨_, rfl, _, 2, rfl, rfl, by decide, by decide, by show 1 * 2 ≤ 100000; decide, h⟩) (fun H6 sm6 hl6 => ?_)
      have hD6 := hD5.same sm6
      have G6 : Go (· = d) H H6 := G5.trans (Go.same sm6)
      have hl6' : H6 Sp = some (.lst (spare.map V.str)) := by
        rw [hl6]
        unfold spare
        rw [List.map_map]
        rfl
      have nS6 := hD5.neNew nS
      -- the first that is not taken
      refine ⟨_, rfl, Sp, rfl, ⟨_, SqL.of hl6'⟩, fun R nR => ?_⟩
      refine lc_list (xs := spare.map V.str) (fun i H' => Same H6 H' ∧ H' R = some (.lst (((spare.take i).filter fun x => !decide (x ∈ ns)).map V.str))) ⟨same_new nR, upd_same⟩ (fun i H' _ hP => SqL.of (hP.1 _ _ hl6')) (fun i x H' hx hP => ?_) (fun H' hP => ?_)
      · obtain ⟨sm, hl7⟩ := hP
        have hx2 : ∃ z, spare[i]? = some z ∧ x = .str z := by
          rw [List.getElem?_map] at hx
          cases hz : spare[i]? with
          | none => rw [hz] at hx; cases hx
          | some z => rw [hz] at hx; exact ⟨z, rfl, (Option.some.inj hx).symm⟩
        obtain ⟨z, hz, rfl⟩ := hx2
        refine ⟨rfl, ?_⟩
        refine ⟨_, rfl, _, rfl, sc, _, rfl, .inl (SqL.of (sm _ _ (G6.at hsc nsd))), rfl, flat ns, _, rfl, ite2 (fun c2 => ?_) (fun c2 => ?_)⟩
        · refine ⟨_, rfl, _, hl7, ?_, Same.upd_new sm nR, ?_⟩
          · rw [List.length_map]
            have h1 : ((spare.take i).filter fun x => !decide (x ∈ ns)).length ≤ (spare.take i).length := List.length_filter_le _ _
            have h2 : (spare.take i).length ≤ spare.length := by rw [List.length_take]; omega
            have h3 : spare.length = 26 := by decide +kernel
            exact szl (by omega)
          · have c3 : (!inV (.str z) (ns.map V.str)) = true := c2
            rw [inV_str] at c3
            rw [upd_same, List.take_add_one, hz, List.filter_append, List.map_append]
            have e : (Option.toList (some z)).filter (fun x => !decide (x ∈ ns)) = [z] := by
              show List.filter (fun x => !decide (x ∈ ns)) [z] = [z]
              rw [List.filter_cons, if_pos c3]
              rfl
            rw [e]
            rfl
        · have c3 : (!inV (.str z) (ns.map V.str)) = false := Bool.eq_false_iff.mpr c2
          rw [inV_str] at c3
          refine ⟨sm, ?_⟩
          rw [hl7, List.take_add_one, hz, List.filter_append]
          have e : (Option.toList (some z)).filter (fun x => !decide (x ∈ ns)) = [] := by
            show List.filter (fun x => !decide (x ∈ ns)) [z] = []
            rw [List.filter_cons, if_neg (by rw [c3]; exact Bool.false_ne_true)]
            rfl
          rw [e, List.append_nil]
      · obtain ⟨sm, hl7⟩ := hP
        rw [List.length_map, List.take_length] at hl7
        have hf : ∃ z r, (spare.filter fun x => !decide (x ∈ ns)) = z :: r ∧ z ∈ spare ∧ z ∉ ns := by
          cases hfl : spare.filter fun x => !decide (x ∈ ns) with
          | nil =>
            obtain ⟨x, hx, hn⟩ := spare_free hlen
            have : x ∈ spare.filter fun x => !decide (x ∈ ns) := List.mem_filter.mpr ⟨hx, by simp [hn]⟩
            rw [hfl] at this
            cases this
          | cons z r =>
            have : z ∈ spare.filter fun x => !decide (x ∈ ns) := by rw [hfl]; exact List.mem_cons_self
            obtain ⟨h1, h2⟩ := List.mem_filter.mp this
            exact ⟨z, r, rfl, h1, by simpa using h2⟩
        obtain ⟨z, r, he, hz1, hz2⟩ := hf
        rw [he] at hl7
        refine ⟨R, _, 0, .str z, rfl, rfl, SqL.of hl7, atI_nat (j := 0) rfl, ?_⟩
        exact q z H' (spare_name hz1) hz2 (hD6.same sm) (G6.trans (Go.same sm))
/-! ### a leaf where plans may be called -/
def KitV (H : Hp) (kvs : List (Key × V)) (ks : List Str) (C : Str → Prop) : Prop := kvs.map (·.1) = ks.map Sum.inr ∧ ks.length < 60 ∧ ∀ x ∈ ks, nameB x = true ∧ C x ∧ ∃ (b : Addr) (g : Bool) (a c : Int), valV kvs (.inr x) = some (.ref b) ∧ H b = some (.tup [.bl g, .int a, .int c])
theorem KitV.to {H H' : Hp} {kvs : List (Key × V)} {ks : List Str} {C : Str → Prop} (h : KitV H kvs ks C) (m : Imm H H') : KitV H' kvs ks C := by
  obtain ⟨h1, h2, h3⟩ := h
  refine ⟨h1, h2, fun x hx => ?_⟩
  obtain ⟨e1, e2, b, g, a, c, e3, e4⟩ := h3 x hx
  exact ⟨e1, e2, b, g, a, c, e3, m _ _ e4⟩
theorem lay_strs8 : ∀ zs : List Str, (∀ z ∈ zs, PyData.strOk z = true) → PyData.canLayAll0 (zs.map PyData.str) = true
  | [], _ => rfl
  | z :: r, h => by
    show (PyData.strOk z && PyData.canLayAll0 (r.map PyData.str)) = true
    rw [h z List.mem_cons_self, lay_strs8 r fun x hx => h x (List.mem_cons_of_mem _ hx)]
    rfl
theorem dep_strs8 : ∀ zs : List Str, PyData.depthAll (zs.map PyData.str) = 0
  | [] => rfl
  | z :: r => by
    show max 0 (PyData.depthAll (r.map PyData.str)) = 0
    rw [dep_strs8 r]
    rfl
theorem dp_strs8 {K : PySem.W.Frag} {H : Hp} : ∀ zs : List Str, DpAll K H (zs.map V.str) (zs.map PyData.str)
  | [] => .nil
  | z :: r => .cons (.str z) (dp_strs8 r)
theorem eqv_nil8 (ds : List PyData) : PyData.eqv (.list ds) (.list []) = ds.isEmpty := by
  cases ds with
  | nil => decide +kernel
  | cons t r => simp [PyData.eqv, PyData.eqvAll]
def spLeafC (kvs : List (Key × V)) (ks : List Str) (C : Str → Prop) : Sp := fun vs H Q _ => ∃ (d L k kd sc : Addr) (dp r : Int) (fig wide : Bool) (ns : List Str), vs = [.ref d, .ref k, .ref sc, .int dp] ∧ Dr H d L ∧ H k = some (.lst [.int r, .ref kd, .bl fig, .bl wide]) ∧ H kd = some (.dK kvs) ∧ KitV H kvs ks C ∧ k ≠ d ∧ kd ≠ d ∧ H sc = some (.lst (ns.map V.str)) ∧ sc ≠ d ∧ ("n" : Str) ∈ ns ∧ ns.length < 100 ∧
  ∀ (v : V) (t : Thing) (H' : Hp), Rp H' v (enc t) → (∀ n, TOk C False ns n t) → cntT t = 1 → Dr H' d L → Go (· = d) H H' → Q v H'
theorem ok_leafC (T : Tops w K mg) (kvs : List (Key × V)) (ks : List Str) (C : Str → Prop) : FnOk P w K mg base CX0 4 T.fl_leaf T.dl_leaf ["_law_draw", "_law_kit", "_law_scope", "_law_deep"] (spLeafC kvs ks C) := by
  have Gl_take : FnOk P w K mg base CX0 1 T.fl_take T.dl_take ["_law_draw", "_law_sides"] spTake := ok_take T
  have Gl_pick : FnOk P w K mg base CX0 2 T.fl_pick T.dl_pick ["_law_draw", "_law_row"] (spPick K) := ok_pick T
  have Gl_some_end : FnOk P w K mg base CX0 3 T.fl_some_end T.dl_some_end ["_law_draw", "_law_scope", "_law_wide"] spSomeEnd := ok_some_end T
  refine T.Fl_leaf.ok (k := 3) scl_leaf (fun vs H Q E h => ?_) (fun cdv A outer s H vs Q E hr h => ?_)
  · obtain ⟨d, L, k, kd, sc, dp, r, fig, wide, ns, rfl, _⟩ := h
    rfl
  obtain ⟨d, L, k, kd, sc, dp, r, fig, wide, ns, rfl, hD, hk, hkd, hV, nkd, ndd, hsc, nsd, hnn, hnl, q⟩ := h
  refine ⟨_, (pss_cons (ps_setLc (i := 4) (own := [("_law_name", 5)]) rfl scl_leaf.nd rfl rfl (sw_true rfl rfl rfl (by decide +kernel)) (pi_list (pe_callB (call_sortedD rfl) (by rfl) T.msorted (by decide +kernel) (pa_cons (pe_ix ix_list (pv 1) pe_int (fun _ _ => rfl)) pa_nil))) (blkOk_by (N := Nl_leaf) (sc := defScope sl_leaf) (by decide +kernel)) (fun _ _ _ _ _ => (pg_name (i := 5) scl_leaf.nd rfl (Or.inl rfl))) (fun _ _ _ _ _ => (pts_one (PW.pt (pw_and (pt_cmpR op_lt (pe_op op_add (pe_ix (ix_tupK (K := K) rfl) (pe_dget (hu_of hr) (pe_ix (ix_listK (K := K) rfl) (pv 1) pe_int (fun _ _ => rfl)) (pv 5) (fun _ _ => rfl)) pe_int (fun _ _ => rfl)) (pv 3)) pe_int (nomark _)) (pw_and1 (pt_cmpR op_lt (pe_ix (ix_tupK (K := K) rfl) (pe_dget (hu_of hr) (pe_ix (ix_listK (K := K) rfl) (pv 1) pe_int (fun _ _ => rfl)) (pv 5) (fun _ _ => rfl)) pe_int (fun _ _ => rfl)) pe_int (nomark _))))))) (fun _ _ _ _ _ => (pv 5)))
 (pss_cons (ps_if (PW.pt (pw_and (pt_cmpR (op_neD hr.units) (pv 4) (pe_lst pa_nil) (nomark _)) (pw_and1 (pt_cmpR op_eq (pe_call Gl_take (hr.mono (by omega)) (by rfl) T.gl_take T.Fl_take.kp T.bl_take .nil pass0 (pa_cons (pv 0) (pa_cons pe_int pa_nil))) pe_int (nomark _)))))
  (pss_cons (ps_set (i := 5) scl_leaf.nd rfl (Or.inl rfl) (pe_call Gl_pick (hr.mono (by omega)) (by rfl) T.gl_pick T.Fl_pick.kp T.bl_pick .nil pass0 (pa_cons (pv 0) (pa_cons (pv 4) pa_nil))))
 (pss_cons (ps_set (i := 6) scl_leaf.nd rfl (Or.inl rfl) (pe_call Gl_some_end (hr.mono (by omega)) (by rfl) T.gl_some_end T.Fl_some_end.kp T.bl_some_end .nil pass0 (pa_cons (pv 0) (pa_cons (pv 2) (pa_cons (pe_ix ix_list (pv 1) pe_int (fun _ _ => rfl)) pa_nil)))))
 (pss_one (ps_ret (pe_tup (pa_cons pe_str (pa_cons (pv 5) (pa_cons (pe_ifExp (PW.pt (pw_and (pt_truth (pe_ix ix_tup (pe_dget (hu_of hr) (pe_ix ix_list (pv 1) pe_int (fun _ _ => rfl)) (pv 5) (fun _ _ => rfl)) pe_int (fun _ _ => rfl)) (by intro _; rfl)) (pw_and1 (pt_cmpR op_ne (pe_ix ix_tup (pv 6) pe_int (fun _ _ => rfl)) pe_str (nomark _))))) (pe_tup (pa_cons pe_str (pa_cons pe_int pa_nil))) (pv 6)) pa_nil))))))))
  pss_nil)
 (pss_one (ps_ret (pe_tup (pa_cons pe_str (pa_cons (pe_ix ix_list (pe_lst (pa_cons (pe_call Gl_take (hr.mono (by omega)) (by rfl) T.gl_take T.Fl_take.kp T.bl_take .nil pass0 (pa_cons (pv 0) (pa_cons pe_int pa_nil))) (pa_cons (pe_call Gl_take (hr.mono (by omega)) (by rfl) T.gl_take T.Fl_take.kp T.bl_take .nil pass0 (pa_cons (pv 0) (pa_cons pe_int pa_nil))) pa_nil))) (pe_call Gl_take (hr.mono (by omega)) (by rfl) T.gl_take T.Fl_take.kp T.bl_take .nil pass0 (pa_cons (pv 0) (pa_cons pe_int pa_nil))) (fun _ _ => rfl)) pa_nil))))))), ?_⟩
  obtain ⟨hV1, hV2, hV3⟩ := id hV
  refine ⟨_, rfl, k, _, 1, _, rfl, rfl, SqL.of hk, rfl, kd, kvs, ks, rfl, .inl hkd, hV1, by omega, fun ys p hperm _ np => ?_⟩
  have s1 := same_new (o := .lst (ys.map V.str)) np
  refine ⟨p, rfl, ⟨_, SqL.of upd_same⟩, fun F nF => ?_⟩
  have hyl : ys.length = ks.length := hperm.length_eq
  refine lc_list (xs := ys.map V.str) (fun i H' => Same (upd H p (.lst (ys.map V.str))) H' ∧ ∃ zs : List Str, H' F = some (.lst (zs.map V.str)) ∧ (∀ z ∈ zs, z ∈ ks) ∧ zs.length ≤ i) ⟨same_new nF, [], upd_same, (fun z hz => by cases hz), Nat.le_refl _⟩ (fun i H' _ hP => SqL.of (hP.1 _ _ upd_same)) (fun i x H' hx hP => ?_) (fun H' hP => ?_)
  · obtain ⟨sm, zs, hF, hzs, hzl⟩ := hP
    obtain ⟨z, rfl, hz⟩ := mem_strs (ns := ys) (List.mem_of_getElem? hx)
    have hi : i < (ys.map V.str).length := (List.getElem?_eq_some_iff.mp hx).1
    rw [List.length_map] at hi
    have hzk : z ∈ ks := hperm.mem_iff.mp hz
    obtain ⟨e1, e2, b, g, a, c, e3, e4⟩ := hV3 z hzk
    have sA := s1.trans sm
    have gd := DGet.k (k := .inr z) (sA _ _ hkd)
    rw [e3] at gd
    have hb := sA _ _ e4
    refine ⟨rfl, ?_⟩
    refine ⟨_, rfl, k, _, 1, _, rfl, rfl, SqL.of (sA _ _ hk), rfl, _, rfl, kd, _, rfl, gd, b, _, 1, _, rfl, rfl, SqT.of hb, rfl, _, rfl, a, dp, rfl, rfl, _, 9, rfl, rfl, _, rfl, ite2 (fun c1 => ?_) (fun c1 => ?_)⟩
    · refine ⟨_, rfl, k, _, 1, _, rfl, rfl, SqL.of (sA _ _ hk), rfl, _, rfl, kd, _, rfl, gd, b, _, 2, _, rfl, rfl, SqT.of hb, rfl, _, 4, rfl, rfl, _, rfl, ite2 (fun c2 => ?_) (fun c2 => ?_)⟩
      · refine ⟨_, rfl, _, hF, szl (by rw [List.length_map]; omega), Same.upd_new sm nF, zs ++ [z], ?_, fun y hy => ?_, by rw [List.length_append]; show zs.length + 1 ≤ i + 1; omega⟩
        · rw [upd_same, List.map_append]
          rfl
        · rcases List.mem_append.mp hy with h1 | h1
          · exact hzs y h1
          · rw [List.mem_singleton.mp h1]
            exact hzk
      · exact ⟨sm, zs, hF, hzs, by omega⟩
    · exact ⟨sm, zs, hF, hzs, by omega⟩
  obtain ⟨sm, zs, hF, hzs, hzl⟩ := hP
  rw [List.length_map] at hzl
  have sA := s1.trans sm
  have nFH : H F = none := s1.free nF
  have nFd : F ≠ d := fun z => by
    obtain ⟨n1, i1, r1, q1, hd, _⟩ := hD
    rw [z, hd] at nFH
    cases nFH
  refine ⟨_, rfl, Nat.zero_le _, fun e ne => ?_⟩
  have s2 := same_new (o := .lst []) ne
  have sB := sA.trans s2
  have sh : SeqAt.shaped (.list (zs.map PyData.str)) = true := by
    unfold SeqAt.shaped
    rw [Bool.and_eq_true]
    refine ⟨lay_strs8 zs fun z hz => name_strOk (hV3 z (hzs z hz)).1, decide_eq_true ?_⟩
    show PyData.depthAll (zs.map PyData.str) + 1 ≤ 64
    rw [dep_strs8]
    decide
  refine ⟨_, _, .lst (SqL.of (s2 _ _ hF)) (dp_strs8 zs), .lst (SqL.of upd_same) .nil, sh, rfl, ?_⟩
  rw [eqv_nil8]
  have hD2 := hD.same sB
  have G2 : Go (· = d) H _ := Go.same sB
  have leaf : ∀ {H2 : Hp}, Dr H2 d L → Go (· = d) H H2 → True := fun _ _ => trivial
  refine ⟨_, rfl, ite2 (fun c0 => ?_) (fun c0 => ?_)⟩
  · refine ⟨_, rfl, d, L, 2, rfl, hD2, by decide, by decide, fun g1 H3 _ _ hD3 hB3 => ?_⟩
    have G3 := G2.trans (Go.but hD2 hB3 (M := (· = d)) rfl)
    refine ⟨rfl, _, rfl, ite2 (fun c1 => ?_) (fun c1 => ?_)⟩
    · have zpos : 0 < zs.length := by
        cases zs with
        | nil => exact absurd c0 (by decide)
        | cons _ _ => exact Nat.zero_lt_succ _
      have hF3 : H3 F = some (.lst (zs.map V.str)) := (hB3 F nFd).trans (s2 _ _ hF)
      refine ⟨_, rfl, _, rfl, d, L, _, zs.length, rfl, hD3, zpos, by omega, .inr ⟨F, zs.map V.str, rfl, nFd, SqL.of hF3, List.length_map _, fun y H4 hy hD4 hB4 => ?_⟩⟩
      obtain ⟨x, rfl, hx⟩ := mem_strs hy
      have hxk := hzs x hx
      obtain ⟨e1, e2, b, g, a, c, e3, e4⟩ := hV3 x hxk
      have G4 := G3.trans (Go.but hD3 hB4 (M := (· = d)) rfl)
      refine ⟨_, rfl, _, rfl, _, rfl, k, _, 3, _, rfl, rfl, SqL.of (G4.at hk nkd), rfl, d, L, sc, ns, wide, rfl, hD4, G4.at hsc nsd, nsd, List.ne_nil_of_mem hnn, hnl, fun ve en H5 hRe hE hD5 G45 => ?_⟩
      have G5 := G4.trans G45
      have gd := DGet.k (k := .inr x) (G5.at hkd ndd)
      rw [e3] at gd
      obtain ⟨be, v1, v2, rfl, hbe, rfl, rfl⟩ := rp_t2 hRe
      refine ⟨_, rfl, _, rfl, k, _, 1, _, rfl, rfl, SqL.of (G5.at hk nkd), rfl, _, rfl, kd, _, rfl, gd, b, _, 0, _, rfl, rfl, SqT.of (G5.im _ _ e4), rfl, ?_⟩
      have fin : ∀ (p2 : Addr), H5 p2 = none → Q (.ref p2) (upd H5 p2 (.tup [.str "call", .str x, .ref be])) := fun p2 np2 =>
        q _ (.call x en) _ (rp_tup upd_same (rpl_cons rfl (rpl_cons rfl (rpl_cons (hRe.to (Imm.same (same_new np2))) rpl_nil)))) (fun _ => ⟨e1, e2, hE⟩) rfl (hD5.new np2) (G5.new np2)
      refine ⟨g, rfl, ite2 (fun _ => ?_) (fun _ => ⟨_, rfl, (by show 3 ≤ sizeLine; decide), fin⟩)⟩
      refine ⟨_, rfl, be, _, 0, _, rfl, rfl, SqT.of hbe, rfl, rfl, _, rfl, ite2 (fun _ => ?_) (fun _ => ⟨_, rfl, (by show 3 ≤ sizeLine; decide), fin⟩)⟩
      refine ⟨(by show 2 ≤ sizeLine; decide), fun p1 np1 => ⟨(by show 3 ≤ sizeLine; decide), fun p2 np2 => ?_⟩⟩
      have s6 := same_new (o := .tup [.str "n", .int 0]) np1
      have s7 := same_new (o := .tup [.str "call", .str x, .ref p1]) np2
      exact q _ (.call x ("n", 0)) _ (rp_tup upd_same (rpl_cons rfl (rpl_cons rfl (rpl_cons (rp_tup (s7 _ _ upd_same) (rpl_cons rfl (rpl_cons rfl rpl_nil))) rpl_nil)))) (fun _ => ⟨e1, e2, .inr ⟨hnn, by decide, by decide⟩⟩) rfl ((hD5.new np1).new np2) ((G5.new np1).new np2)
    · refine ⟨_, rfl, d, L, 5, rfl, hD3, by decide, by decide, fun g3 H3' a3 b3 hD3' hB3' => ?_⟩
      have G3' := G3.trans (Go.but hD3 hB3' (M := (· = d)) rfl)
      refine ⟨_, rfl, d, L, 100, rfl, hD3', by decide, by decide, fun g4 H4 a4 b4 hD4 hB4 => ?_⟩
      have G4 := G3'.trans (Go.but hD3' hB4 (M := (· = d)) rfl)
      refine ⟨(by show 2 ≤ sizeLine; decide), fun l nl => ?_⟩
      refine ⟨_, rfl, d, L, 2, rfl, hD4.new nl, by decide, by decide, fun g5 H5 a5 b5 hD5 hB5 => ?_⟩
      have G5 := (G4.new nl).trans (Go.but (hD4.new nl) hB5 (M := (· = d)) rfl)
      have hl : H5 l = some (.lst [.int g3, .int g4]) := by
        rw [hB5 l (hD4.neNew nl).1]
        exact upd_same
      obtain ⟨v, hv, hm⟩ := atI_lt (xs := [V.int g3, .int g4]) a5 b5
      obtain ⟨m, rfl, hm2⟩ := mem_ints2 hm
      refine ⟨l, _, g5, _, rfl, rfl, SqL.of hl, hv, (by show 2 ≤ sizeLine; decide), fun t nt => ?_⟩
      exact q _ (.step m) _ (rp_tup upd_same (rpl_cons rfl (rpl_cons rfl rpl_nil))) (fun _ => ⟨by omega, by omega⟩) rfl (hD5.new nt) (G5.new nt)
  · refine ⟨_, rfl, d, L, 5, rfl, hD2, by decide, by decide, fun g3 H3' a3 b3 hD3' hB3' => ?_⟩
    have G3' := G2.trans (Go.but hD2 hB3' (M := (· = d)) rfl)
    refine ⟨_, rfl, d, L, 100, rfl, hD3', by decide, by decide, fun g4 H4 a4 b4 hD4 hB4 => ?_⟩
    have G4 := G3'.trans (Go.but hD3' hB4 (M := (· = d)) rfl)
    refine ⟨(by show 2 ≤ sizeLine; decide), fun l nl => ?_⟩
    refine ⟨_, rfl, d, L, 2, rfl, hD4.new nl, by decide, by decide, fun g5 H5 a5 b5 hD5 hB5 => ?_⟩
    have G5 := (G4.new nl).trans (Go.but (hD4.new nl) hB5 (M := (· = d)) rfl)
    have hl : H5 l = some (.lst [.int g3, .int g4]) := by
      rw [hB5 l (hD4.neNew nl).1]
      exact upd_same
    obtain ⟨v, hv, hm⟩ := atI_lt (xs := [V.int g3, .int g4]) a5 b5
    obtain ⟨m, rfl, hm2⟩ := mem_ints2 hm
    refine ⟨l, _, g5, _, rfl, rfl, SqL.of hl, hv, (by show 2 ≤ sizeLine; decide), fun t nt => ?_⟩
    exact q _ (.step m) _ (rp_tup upd_same (rpl_cons rfl (rpl_cons rfl rpl_nil))) (fun _ => ⟨by omega, by omega⟩) rfl (hD5.new nt) (G5.new nt)
end
end K08

set_option Elab.async false
set_option linter.all false
set_option maxRecDepth 100000
set_option maxHeartbeats 4000000
namespace K08
open PySem PySem.Spec PyProof.Rows L2 OG
open C8 (pss_cut pe_gc)

section
variable {P : Program} {w : World} {K : PySem.W.Frag} {mg : Str → Option Value} {base : Heap}
def KtC (kvs : List (Key × V)) (H : Hp) (k kd : Addr) (r : Int) (fig wide : Bool) : Prop := H k = some (.lst [.int r, .ref kd, .bl fig, .bl wide]) ∧ H kd = some (.dK kvs)
def spDrawC (kvs : List (Key × V)) (ks : List Str) (C : Str → Prop) (post : Nat → List Str → V → Hp → Nat → Prop) (n : Nat) : Sp := fun vs H Q _ => ∃ (d L k kd sc : Addr) (r : Nat) (fig wide : Bool) (ns : List Str), vs = [.ref d, .ref k, .ref sc, .int (4 - n)] ∧ Dr H d L ∧ KtC kvs H k kd r fig wide ∧ k ≠ d ∧ k ≠ L ∧ 1 ≤ r ∧ r ≤ 100 ∧
  H sc = some (.lst (ns.map V.str)) ∧ sc ≠ d ∧ sc ≠ k ∧ (ScOk ns ∧ ("n" : Str) ∈ ns ∧ KitV H kvs ks C) ∧ ns ≠ [] ∧ ns.length + n ≤ 20 ∧
  ∀ (v : V) (c r' : Nat) (H' : Hp), post n ns v H' c → c + r' = r → Dr H' d L → KtC kvs H' k kd r' fig wide → Go (M2 d k) H H' → Q v H'
def spDrawThingC (kvs : List (Key × V)) (ks : List Str) (C : Str → Prop) : Nat → Sp := spDrawC kvs ks C fun n ns v H' c => ∃ t, Rp H' v (enc t) ∧ TOk C False ns n t ∧ cntT t = c
def spDrawBodyC (kvs : List (Key × V)) (ks : List Str) (C : Str → Prop) : Nat → Sp := spDrawC kvs ks C fun n ns v H' c => ∃ ts, ts ≠ [] ∧ Rp H' v (.tup (encs ts)) ∧ TsOk C False ns n ts ∧ cntB ts = c
/-- what drawn_body promises to a thing with n brackets left -/
def prevC (kvs : List (Key × V)) (ks : List Str) (C : Str → Prop) : Nat → Sp
  | 0 => fun _ _ _ _ => False
  | m + 1 => spDrawBodyC kvs ks C m
theorem ok_drawn_thing (T : Tops w K mg) (kvs : List (Key × V)) (ks : List Str) (C : Str → Prop) (n : Nat) (Gl_drawn_body : FnOk P w K mg base CX0 (4 + 2 * n) T.fl_drawn_body T.dl_drawn_body ["_law_draw", "_law_kit", "_law_scope", "_law_deep"] (prevC kvs ks C n)) :
    FnOk P w K mg base CX0 (5 + 2 * n) T.fl_drawn_thing T.dl_drawn_thing ["_law_draw", "_law_kit", "_law_scope", "_law_deep"] (spDrawThingC kvs ks C n) := by
  have Gl_take : FnOk P w K mg base CX0 1 T.fl_take T.dl_take ["_law_draw", "_law_sides"] spTake := ok_take T
  have Gl_leaf : FnOk P w K mg base CX0 4 T.fl_leaf T.dl_leaf ["_law_draw", "_law_kit", "_law_scope", "_law_deep"] (spLeafC kvs ks C) := ok_leafC T kvs ks C
  have Gl_some_end : FnOk P w K mg base CX0 3 T.fl_some_end T.dl_some_end ["_law_draw", "_law_scope", "_law_wide"] spSomeEnd := ok_some_end T
  have Gl_fresh : FnOk P w K mg base CX0 3 T.fl_fresh T.dl_fresh ["_law_draw", "_law_taken"] spFresh := ok_fresh T
  have elev : 5 + 2 * n = (4 + 2 * n) + 1 := by omega
  rw [elev]
  refine T.Fl_drawn_thing.ok (k := 4 + 2 * n) scl_drawn_thing (fun vs H Q E h => ?_) (fun cdv A outer s H vs Q E hr h => ?_)
  · obtain ⟨d, L, k, kd, sc, r, fig, wide, ns, rfl, _⟩ := h
    rfl
  obtain ⟨d, L, k, kd, sc, r, fig, wide, ns, rfl, hD, ⟨hk, hkd⟩, nkd, nkL, r1, r2, hsc, nsd, nsk, ⟨hSc, hnn, hV⟩, hne, hlen, q⟩ := h
  refine ⟨_, (pss_cons (ps_asg (pe_op op_sub (pe_ix ix_list (pv 1) pe_int (fun _ _ => rfl)) pe_int) (pg_sub (pv 1) pe_int set_list))
 (pss_cons (ps_set (i := 4) scl_drawn_thing.nd rfl (Or.inl rfl) (pe_call Gl_take (hr.mono (by omega)) (by rfl) T.gl_take T.Fl_take.kp T.bl_take .nil pass0 (pa_cons (pv 0) (pa_cons pe_int pa_nil))))
 (pss_cons (ps_if (PW.pt (pw_or (pt_cmpR op_lt (pe_ix ix_list (pv 1) pe_int (fun _ _ => rfl)) pe_int (nomark _)) (pw_or (pt_cmpR op_gt (pv 3) pe_int (nomark _)) (pw_or1 (pt_cmpR op_lt (pv 4) pe_int (nomark _))))))
  (pss_one (ps_ret (pe_call Gl_leaf (hr.mono (by omega)) (by rfl) T.gl_leaf T.Fl_leaf.kp T.bl_leaf .nil pass0 (pa_cons (pv 0) (pa_cons (pv 1) (pa_cons (pv 2) (pa_cons (pv 3) pa_nil)))))))
  pss_nil)
 (pss_cut (ps_if (PW.pt (pw_and (pt_cmpR op_eq (pv 4) pe_int (nomark _)) (pw_and1 (pt_val (pe_ix ix_list (pv 1) pe_int (fun _ _ => rfl))))))
  (pss_one (ps_ret (pe_tup (pa_cons pe_str (pa_cons (pe_call Gl_drawn_body (hr.mono (by omega)) (by rfl) T.gl_drawn_body T.Fl_drawn_body.kp T.bl_drawn_body .nil pass0 (pa_cons (pv 0) (pa_cons (pv 1) (pa_cons (pv 2) (pa_cons (pe_op op_add (pv 3) pe_int) pa_nil))))) pa_nil)))))
  pss_nil)
 (pss_cons (ps_par (i := 7) (j := 8) (by rfl) scl_drawn_thing.nd rfl rfl (by decide) rfl rfl (pa_cons (pe_call Gl_some_end (hr.mono (by omega)) (by rfl) T.gl_some_end T.Fl_some_end.kp T.bl_some_end .nil pass0 (pa_cons (pv 0) (pa_cons (pv 2) (pa_cons (pe_ix ix_list (pv 1) pe_int (fun _ _ => rfl)) pa_nil)))) (pa_cons (pe_call Gl_some_end (hr.mono (by omega)) (by rfl) T.gl_some_end T.Fl_some_end.kp T.bl_some_end .nil pass0 (pa_cons (pv 0) (pa_cons (pv 2) (pa_cons (pe_ix ix_list (pv 1) pe_int (fun _ _ => rfl)) pa_nil)))) pa_nil)) (by rfl))
 (pss_cons (ps_if (pt_cmpR op_lt (pv 4) pe_int (nomark _))
  (pss_cons (ps_set (i := 9) scl_drawn_thing.nd rfl (Or.inl rfl) (pe_call Gl_fresh (hr.mono (by omega)) (by rfl) T.gl_fresh T.Fl_fresh.kp T.bl_fresh .nil pass0 (pa_cons (pv 0) (pa_cons (pv 2) pa_nil))))
 (pss_one (ps_ret (pe_tup (pa_cons pe_str (pa_cons (pv 9) (pa_cons (pv 7) (pa_cons (pv 8) (pa_cons (pe_call Gl_drawn_body (hr.mono (by omega)) (by rfl) T.gl_drawn_body T.Fl_drawn_body.kp T.bl_drawn_body .nil pass0 (pa_cons (pv 0) (pa_cons (pv 1) (pa_cons (pe_op op_cat (pv 2) (pe_lst (pa_cons (pv 9) pa_nil))) (pa_cons (pe_op op_add (pv 3) pe_int) pa_nil))))) pa_nil)))))))))
  pss_nil)
 (pss_cons (ps_asg (pe_op op_sub (pe_ix ix_list (pv 1) pe_int (fun _ _ => rfl)) pe_int) (pg_sub (pv 1) pe_int set_list))
 (pss_cons (ps_set (i := 5) scl_drawn_thing.nd rfl (Or.inl rfl) (pe_call Gl_drawn_body (hr.mono (by omega)) (by rfl) T.gl_drawn_body T.Fl_drawn_body.kp T.bl_drawn_body .nil pass0 (pa_cons (pv 0) (pa_cons (pv 1) (pa_cons (pv 2) (pa_cons (pe_op op_add (pv 3) pe_int) pa_nil))))))
 (pss_cons (ps_asg (pe_op op_add (pe_ix ix_list (pv 1) pe_int (fun _ _ => rfl)) pe_int) (pg_sub (pv 1) pe_int set_list))
 (pss_cut (ps_set (i := 6) scl_drawn_thing.nd rfl (Or.inl rfl) (pe_ifExp (pt_cmpR op_eq (pe_call Gl_take (hr.mono (by omega)) (by rfl) T.gl_take T.Fl_take.kp T.bl_take .nil pass0 (pa_cons (pv 0) (pa_cons pe_int pa_nil))) pe_int (nomark _)) (pe_tup pa_nil) (pe_call Gl_drawn_body (hr.mono (by omega)) (by rfl) T.gl_drawn_body T.Fl_drawn_body.kp T.bl_drawn_body .nil pass0 (pa_cons (pv 0) (pa_cons (pv 1) (pa_cons (pv 2) (pa_cons (pe_op op_add (pv 3) pe_int) pa_nil)))))))
 (pss_one (ps_ret (pe_tup (pa_cons pe_str (pa_cons (pv 7) (pa_cons (pv 8) (pa_cons (pv 5) (pa_cons (pv 6) pa_nil)))))))))))))))))), ?_⟩
  have ndk : kd ≠ k := ne_of hkd hk (fun z => by cases z)
  have ndd : kd ≠ d := by
    obtain ⟨zs, i0, i1, i2, z1, _⟩ := hD
    exact ne_of hkd z1 (fun z => by cases z)
  have nMsc : ¬ M2 d k sc := fun z => z.elim nsd nsk
  have nMkd : ¬ M2 d k kd := fun z => z.elim ndd ndk
  -- kit[0] = kit[0] - 1
  refine ⟨_, rfl, k, _, 0, _, rfl, rfl, SqL.of hk, rfl, (r : Int), 1, rfl, rfl, _, rfl, k, _, 0, 0, rfl, rfl, hk, rfl, ?_⟩
  have er : (r : Int) - 1 = ((r - 1 : Nat) : Int) := by omega
  have hk1 : (upd H k (.lst [.int ((r : Int) - 1), .ref kd, .bl fig, .bl wide])) k = some (.lst [.int ((r - 1 : Nat) : Int), .ref kd, .bl fig, .bl wide]) := by rw [upd_same, er]
  have hD1 : Dr (upd H k (.lst [.int ((r : Int) - 1), .ref kd, .bl fig, .bl wide])) d L := hD.upd nkd nkL
  have G1 : Go (M2 d k) H (upd H k (.lst [.int ((r : Int) - 1), .ref kd, .bl fig, .bl wide])) := (Go.refl _ H).set (.inr rfl) hk
  -- fork
  refine ⟨_, rfl, d, L, 9, rfl, hD1, by decide, by decide, fun f H2 f0 f1 hD2 hB2 => ?_⟩
  have G2 : Go (M2 d k) H H2 := G1.trans (Go.but hD1 hB2 (.inl rfl))
  have hk2 : H2 k = some (.lst [.int ((r - 1 : Nat) : Int), .ref kd, .bl fig, .bl wide]) := by
    rw [hB2 k nkd]
    exact hk1
  have hkd2 : H2 kd = some (.dK kvs) := G2.at hkd nMkd
  have hsc2 : H2 sc = some (.lst (ns.map V.str)) := G2.at hsc nMsc
  have hleaf : spLeafC kvs ks C [.ref d, .ref k, .ref sc, .int (4 - n)] H2 Q E0 := ⟨d, L, k, kd, sc, _, _, fig, wide, ns, rfl, hD2, hk2, hkd2, hV.to G2.im, nkd, ndd, hsc2, nsd, hnn, by omega, fun v t H3 hR hT hc hD3 G3 =>
    q v 1 (r - 1) H3 ⟨t, hR, hT n, hc⟩ (by omega) hD3 ⟨G3.at hk2 nkd, G3.at hkd2 ndd⟩ (G2.trans (G3.mono fun b e => .inl e))⟩
  refine ⟨_, rfl, k, _, 0, _, rfl, rfl, SqL.of hk2, rfl, _, 2, rfl, rfl, _, rfl, ite2 (fun c1 => ?_) (fun c1 => ?_)⟩
  · exact iteT ⟨_, rfl, _, rfl, _, rfl, _, rfl, hleaf⟩
  refine ⟨_, rfl, _, 3, rfl, rfl, _, rfl, ite2 (fun c2 => ?_) (fun c2 => ?_)⟩
  · exact iteT ⟨_, rfl, _, rfl, _, rfl, _, rfl, hleaf⟩
  refine ⟨_, rfl, _, 2, rfl, rfl, _, rfl, ite2 (fun c3 => ?_) (fun c3 => ?_)⟩
  · exact ⟨_, rfl, _, rfl, _, rfl, _, rfl, hleaf⟩
  have d1 : ¬ (((r - 1 : Nat) : Int) < 2) := fun z => c1 (decide_eq_true z)
  have d2 : ¬ ((3 : Int) < 4 - (n : Int)) := fun z => c2 (decide_eq_true z)
  cases n with
  | zero => exact absurd (by decide) d2
  | succ m =>
  have edeep : (4 - ((m + 1 : Nat) : Int) + 1) = 4 - (m : Int) := by omega
  have eargs : ∀ c : Addr, ([.ref d, .ref k, .ref c, .int (4 - ((m + 1 : Nat) : Int) + 1)] : List V) = [.ref d, .ref k, .ref c, .int (4 - (m : Int))] := fun c => by rw [edeep]
  -- double
  refine ⟨fun σ' H' => σ' = [some (.ref d), some (.ref k), some (.ref sc), some (.int (4 - ((m + 1 : Nat) : Int))), some (.int f), none, none, none, none, none] ∧ H' = H2, ?_, ?_⟩
  · refine ⟨_, rfl, rfl, _, rfl, ite2 (fun c4 => ?_) (fun c4 => ?_)⟩
    · refine ⟨_, rfl, k, _, 2, _, rfl, rfl, SqL.of hk2, rfl, fig, rfl, ite2 (fun c5 => ?_) (fun c5 => ?_)⟩
      · refine ⟨_, rfl, _, rfl, _, rfl, _, rfl, _, 1, rfl, rfl, d, L, k, kd, sc, r - 1, fig, wide, ns, eargs sc, hD2, ⟨hk2, hkd2⟩, nkd, nkL, by omega, by omega, hsc2, nsd, nsk, ⟨hSc, hnn, hV.to G2.im⟩, hne, by omega, fun v c r' H3 hp e hD3 hK3 G3 => ?_⟩
        obtain ⟨ts, hts, hR, hT, hc⟩ := hp
        refine ⟨(by show 2 ≤ sizeLine; decide), fun p np => ?_⟩
        exact q _ (1 + c) r' _ ⟨.twice ts, rp_tup upd_same (rpl_cons rfl (rpl_cons (hR.to (Imm.same (same_new np))) rpl_nil)), ⟨hts, m, rfl, hT⟩, by rw [← hc]; rfl⟩ (by omega) (hD3.new np)
          ⟨same_new np _ _ hK3.1, same_new np _ _ hK3.2⟩ ((G2.trans G3).new np)
      · exact ⟨rfl, rfl⟩
    · exact ⟨rfl, rfl⟩
  rintro σ' H' ⟨rfl, rfl⟩
  -- one, other
  refine ⟨_, rfl, _, rfl, _, rfl, k, _, 3, _, rfl, rfl, SqL.of hk2, rfl, d, L, sc, ns, wide, rfl, hD2, hsc2, nsd, hne, by omega, fun v1 e1 H3 hR1 hE1 hD3 G23 => ?_⟩
  have G3 : Go (M2 d k) H H3 := G2.trans (G23.mono fun b e => .inl e)
  have hk3 := G23.at hk2 nkd
  have hkd3 := G23.at hkd2 ndd
  have hsc3 := G23.at hsc2 nsd
  refine ⟨_, rfl, _, rfl, _, rfl, k, _, 3, _, rfl, rfl, SqL.of hk3, rfl, d, L, sc, ns, wide, rfl, hD3, hsc3, nsd, hne, by omega, fun v2 e2 H4 hR2 hE2 hD4 G34 => ?_⟩
  have G4 : Go (M2 d k) H H4 := G3.trans (G34.mono fun b e => .inl e)
  have hk4 := G34.at hk3 nkd
  have hkd4 := G34.at hkd3 ndd
  have hsc4 := G34.at hsc3 nsd
  have hR1' : Rp H4 v1 (encE e1) := hR1.to G34.im
  refine ⟨_, _, rfl, ?_⟩
  refine ⟨_, rfl, _, 6, rfl, rfl, _, rfl, ite2 (fun c6 => ?_) (fun c6 => ?_)⟩
  · -- for
    refine ⟨_, rfl, _, rfl, d, L, sc, ns, rfl, hD4, hsc4, nsd, by omega, fun x H5 hx hxn hD5 G45 => ?_⟩
    have G5 : Go (M2 d k) H H5 := G4.trans (G45.mono fun b e => .inl e)
    have hk5 := G45.at hk4 nkd
    have hkd5 := G45.at hkd4 ndd
    have hsc5 := G45.at hsc4 nsd
    refine ⟨_, rfl, _, rfl, _, rfl, _, rfl, _, rfl, _, rfl, _, rfl, (by show 1 ≤ sizeLine; decide), fun l nl => ?_⟩
    have s5 : Same H5 (upd H5 l (.lst [.str x])) := same_new nl
    refine ⟨sc, l, _, _, rfl, rfl, s5 _ _ hsc5, upd_same, ?_, fun s2 ns2 => ?_⟩
    · rw [List.length_map]
      show ns.length + 1 ≤ sizeLine
      exact sz (by omega)
    have s6 : Same H5 (upd (upd H5 l (.lst [.str x])) s2 (.lst (ns.map V.str ++ [.str x]))) := s5.trans (same_new ns2)
    have hD6 := (hD5.new (o := .lst [.str x]) nl).new (o := .lst (ns.map V.str ++ [.str x])) ns2
    have nn := (hD5.new (o := .lst [.str x]) nl).neNew ns2
    have n2k : s2 ≠ k := (ne_of_none (s5 _ _ hk5) ns2).symm
    have hs2 : (upd (upd H5 l (.lst [.str x])) s2 (.lst (ns.map V.str ++ [.str x]))) s2 = some (.lst ((ns ++ [x]).map V.str)) := by
      rw [upd_same, List.map_append]
      rfl
    refine ⟨_, rfl, _, 1, rfl, rfl, d, L, k, kd, s2, r - 1, fig, wide, ns ++ [x], eargs s2, hD6, ⟨s6 _ _ hk5, s6 _ _ hkd5⟩, nkd, nkL, by omega, by omega, hs2, nn.1, n2k, ⟨scOk_snoc hSc hx, List.mem_append_left _ hnn, hV.to (G5.im.trans (Imm.same s6))⟩, by simp, by rw [List.length_append]; show ns.length + 1 + m ≤ 20; omega, fun v c r' H7 hp e hD7 hK7 G67 => ?_⟩
    obtain ⟨ts, hts, hR, hT, hc⟩ := hp
    have i57 : Imm H5 H7 := (Imm.same s6).trans G67.im
    refine ⟨(by show 5 ≤ sizeLine; decide), fun p np => ?_⟩
    have i7 : Imm H7 (upd H7 p (.tup [.str "for", .str x, v1, v2, v])) := Imm.same (same_new np)
    exact q _ (1 + c) r' _ ⟨.loop x e1 e2 ts, rp_tup upd_same (rpl_cons rfl (rpl_cons rfl (rpl_cons (hR1'.to ((G45.im.trans i57).trans i7)) (rpl_cons (hR2.to ((G45.im.trans i57).trans i7)) (rpl_cons (hR.to i7) rpl_nil))))), ⟨hx, hxn, hE1, hE2, hts, m, rfl, hT⟩, by rw [← hc]; rfl⟩ (by omega) (hD7.new np)
      ⟨same_new np _ _ hK7.1, same_new np _ _ hK7.2⟩ (((G5.trans (Go.same s6)).trans G67).new np)
  · -- if
    refine ⟨_, rfl, k, _, 0, _, rfl, rfl, SqL.of hk4, rfl, _, 1, rfl, rfl, _, rfl, k, _, 0, 0, rfl, rfl, hk4, rfl, ?_⟩
    have er2 : ((r - 1 : Nat) : Int) - 1 = ((r - 2 : Nat) : Int) := by omega
    have hD5 : Dr (upd H4 k (.lst [.int (((r - 1 : Nat) : Int) - 1), .ref kd, .bl fig, .bl wide])) d L := hD4.upd nkd nkL
    have G5 : Go (M2 d k) H (upd H4 k (.lst [.int (((r - 1 : Nat) : Int) - 1), .ref kd, .bl fig, .bl wide])) := G4.set (.inr rfl) hk4
    have i45 : Imm H4 (upd H4 k (.lst [.int (((r - 1 : Nat) : Int) - 1), .ref kd, .bl fig, .bl wide])) := (Imm.refl H4).upd fun xs e => by rw [hk4] at e; cases e
    have hkd5 : (upd H4 k (.lst [.int (((r - 1 : Nat) : Int) - 1), .ref kd, .bl fig, .bl wide])) kd = some (.dK kvs) := by
      rw [upd_ne ndk]
      exact hkd4
    have hsc5 : (upd H4 k (.lst [.int (((r - 1 : Nat) : Int) - 1), .ref kd, .bl fig, .bl wide])) sc = some (.lst (ns.map V.str)) := by
      rw [upd_ne nsk]
      exact hsc4
    have hk5 : (upd H4 k (.lst [.int (((r - 1 : Nat) : Int) - 1), .ref kd, .bl fig, .bl wide])) k = some (.lst [.int ((r - 2 : Nat) : Int), .ref kd, .bl fig, .bl wide]) := by rw [upd_same, er2]
    refine ⟨_, rfl, _, rfl, _, rfl, _, rfl, _, 1, rfl, rfl, d, L, k, kd, sc, r - 2, fig, wide, ns, eargs sc, hD5, ⟨hk5, hkd5⟩, nkd, nkL, by omega, by omega, hsc5, nsd, nsk, ⟨hSc, hnn, hV.to G5.im⟩, hne, by omega, fun vb cb rb H6 hp eb hD6 hK6 G56 => ?_⟩
    obtain ⟨bs, hbs, hRb, hTb, hcb⟩ := hp
    have G6 := G5.trans G56
    have i46 : Imm H4 H6 := i45.trans G56.im
    refine ⟨_, rfl, k, _, 0, _, rfl, rfl, SqL.of hK6.1, rfl, _, 1, rfl, rfl, _, rfl, k, _, 0, 0, rfl, rfl, hK6.1, rfl, ?_⟩
    have er3 : ((rb : Nat) : Int) + 1 = ((rb + 1 : Nat) : Int) := by omega
    have hD7 : Dr (upd H6 k (.lst [.int (((rb : Nat) : Int) + 1), .ref kd, .bl fig, .bl wide])) d L := hD6.upd nkd nkL
    have G7 : Go (M2 d k) H (upd H6 k (.lst [.int (((rb : Nat) : Int) + 1), .ref kd, .bl fig, .bl wide])) := G6.set (.inr rfl) hK6.1
    have i67 : Imm H6 (upd H6 k (.lst [.int (((rb : Nat) : Int) + 1), .ref kd, .bl fig, .bl wide])) := (Imm.refl H6).upd fun xs e => by rw [hK6.1] at e; cases e
    have hkd7 : (upd H6 k (.lst [.int (((rb : Nat) : Int) + 1), .ref kd, .bl fig, .bl wide])) kd = some (.dK kvs) := by
      rw [upd_ne ndk]
      exact hK6.2
    have hsc7 : (upd H6 k (.lst [.int (((rb : Nat) : Int) + 1), .ref kd, .bl fig, .bl wide])) sc = some (.lst (ns.map V.str)) := by
      rw [upd_ne nsk]
      exact G56.at hsc5 nMsc
    have i47 := i46.trans i67
    have hk7 : (upd H6 k (.lst [.int (((rb : Nat) : Int) + 1), .ref kd, .bl fig, .bl wide])) k = some (.lst [.int ((rb + 1 : Nat) : Int), .ref kd, .bl fig, .bl wide]) := by rw [upd_same, er3]
    refine ⟨fun σ' H' => ∃ vy ys ry, σ' = [some (.ref d), some (.ref k), some (.ref sc), some (.int (4 - ((m + 1 : Nat) : Int))), some (.int f), some vb, some vy, some v1, some v2, none] ∧ Rp H' vy (.tup (encs ys)) ∧ TsOk C False ns m ys ∧ cntB ys + ry = rb + 1 ∧
      Dr H' d L ∧ KtC kvs H' k kd ry fig wide ∧ Go (M2 d k) H H' ∧ Imm H4 H' ∧ Imm H6 H', ?_, ?_⟩
    · refine ⟨_, rfl, d, L, 2, rfl, hD7, by decide, by decide, fun g H8 a8 b8 hD8 hB8 => ?_⟩
      have G78 : Go (· = d) (upd H6 k (.lst [.int (((rb : Nat) : Int) + 1), .ref kd, .bl fig, .bl wide])) H8 := Go.but hD7 hB8 rfl
      have G8 := G7.trans (G78.mono fun b e => .inl e)
      have hk8 := G78.at hk7 nkd
      have hkd8 := G78.at hkd7 ndd
      have hsc8 := G78.at hsc7 nsd
      refine ⟨rfl, _, rfl, ite2 (fun c7 => ?_) (fun c7 => ?_)⟩
      · refine ⟨Nat.zero_le _, fun p np => ?_⟩
        have s9 : Same H8 (upd H8 p (.tup [])) := same_new np
        exact ⟨.ref p, [], rb + 1, rfl, rp_tup upd_same rpl_nil, trivial, Nat.zero_add _, hD8.new np, ⟨s9 _ _ hk8, s9 _ _ hkd8⟩, G8.new np, (i47.trans G78.im).trans (Imm.same s9), (i67.trans G78.im).trans (Imm.same s9)⟩
      · refine ⟨_, rfl, _, rfl, _, rfl, _, rfl, _, 1, rfl, rfl, d, L, k, kd, sc, rb + 1, fig, wide, ns, eargs sc, hD8, ⟨hk8, hkd8⟩, nkd, nkL, by omega, by omega, hsc8, nsd, nsk, ⟨hSc, hnn, hV.to G8.im⟩, hne, by omega, fun vy cy ry H9 hp ey hD9 hK9 G89 => ?_⟩
        obtain ⟨ys, hys, hRy, hTy, hcy⟩ := hp
        exact ⟨vy, ys, ry, rfl, hRy, hTy, by omega, hD9, hK9, G8.trans G89, (i47.trans G78.im).trans G89.im, (i67.trans G78.im).trans G89.im⟩
    · rintro σ' H' ⟨vy, ys, ry, rfl, hRy, hTy, ecy, hD9, hK9, G9, i49, i69⟩
      refine ⟨_, rfl, _, rfl, _, rfl, _, rfl, (by show 5 ≤ sizeLine; decide), fun p np => ?_⟩
      have ip : Imm H' (upd H' p (.tup [.str "if", v1, v2, vb, vy])) := Imm.same (same_new np)
      exact q _ (1 + cntB bs + cntB ys) ry _ ⟨.test e1 e2 bs ys, rp_tup upd_same (rpl_cons rfl (rpl_cons (hR1'.to (i49.trans ip)) (rpl_cons (hR2.to (i49.trans ip)) (rpl_cons (hRb.to (i69.trans ip)) (rpl_cons (hRy.to ip) rpl_nil))))), ⟨hE1, hE2, hbs, m, rfl, hTb, hTy⟩, rfl⟩ (by omega) (hD9.new np)
        ⟨same_new np _ _ hK9.1, same_new np _ _ hK9.2⟩ (G9.new np)
theorem ok_drawn_body (T : Tops w K mg) (kvs : List (Key × V)) (ks : List Str) (C : Str → Prop) (n : Nat) (Gl_drawn_thing : FnOk P w K mg base CX0 (5 + 2 * n) T.fl_drawn_thing T.dl_drawn_thing ["_law_draw", "_law_kit", "_law_scope", "_law_deep"] (spDrawThingC kvs ks C n)) :
    FnOk P w K mg base CX0 (6 + 2 * n) T.fl_drawn_body T.dl_drawn_body ["_law_draw", "_law_kit", "_law_scope", "_law_deep"] (spDrawBodyC kvs ks C n) := by
  have Gl_take : FnOk P w K mg base CX0 1 T.fl_take T.dl_take ["_law_draw", "_law_sides"] spTake := ok_take T
  have elev : 6 + 2 * n = (5 + 2 * n) + 1 := by omega
  rw [elev]
  refine T.Fl_drawn_body.ok (k := 5 + 2 * n) scl_drawn_body (fun vs H Q E h => ?_) (fun cdv A outer s H vs Q E hr h => ?_)
  · obtain ⟨d, L, k, kd, sc, r, fig, wide, ns, rfl, _⟩ := h
    rfl
  obtain ⟨d, L, k, kd, sc, r, fig, wide, ns, rfl, hD, ⟨hk, hkd⟩, nkd, nkL, r1, r2, hsc, nsd, nsk, ⟨hSc, hnn, hV⟩, hne, hlen, q⟩ := h
  refine ⟨_, (pss_cons (ps_set (i := 4) scl_drawn_body.nd rfl (Or.inl rfl) (pe_lst (pa_cons (pe_call Gl_drawn_thing (hr.mono (by omega)) (by rfl) T.gl_drawn_thing T.Fl_drawn_thing.kp T.bl_drawn_thing .nil pass0 (pa_cons (pv 0) (pa_cons (pv 1) (pa_cons (pv 2) (pa_cons (pv 3) pa_nil))))) pa_nil)))
 (pss_cons (ps_for PassesOwn.never rfl (pi_range1 (by rfl) T.mrange (pa_cons (pe_call Gl_take (hr.mono (by omega)) (by rfl) T.gl_take T.Fl_take.kp T.bl_take .nil pass0 (pa_cons (pv 0) (pa_cons pe_int pa_nil))) pa_nil)) (pg_name (i := 5) scl_drawn_body.nd rfl (Or.inl rfl))
  (pss_one (ps_if (pt_cmpR op_gt (pe_ix ix_list (pv 1) pe_int (fun _ _ => rfl)) pe_int (nomark _))
  (pss_one (ps_expr (pe_bm PySem.F.plainAttrs_list PySem.F.slot_list_append PySem.F.type_list_append mt_append (pv 4) (pa_cons (pe_call Gl_drawn_thing (hr.mono (by omega)) (by rfl) T.gl_drawn_thing T.Fl_drawn_thing.kp T.bl_drawn_thing .nil pass0 (pa_cons (pv 0) (pa_cons (pv 1) (pa_cons (pv 2) (pa_cons (pv 3) pa_nil))))) pa_nil))))
  pss_nil)))
 (pss_one (ps_ret (pe_callTy call_tuple_of (by rfl) T.mtuple (by decide +kernel) (pa_cons (pv 4) pa_nil)))))), ?_⟩
  have nMsc : ¬ M2 d k sc := fun z => z.elim nsd nsk
  refine ⟨_, rfl, _, rfl, _, rfl, _, rfl, d, L, k, kd, sc, r, fig, wide, ns, rfl, hD, ⟨hk, hkd⟩, nkd, nkL, r1, r2, hsc, nsd, nsk, ⟨hSc, hnn, hV⟩, hne, hlen, fun v1 c1 ra H1 hp e1 hD1 hK1 G1 => ?_⟩
  obtain ⟨t1, hR1, hT1, hc1⟩ := hp
  refine ⟨(by show 1 ≤ sizeLine; decide), fun F nF => ?_⟩
  have nFH : H F = none := by
    cases hF : H F with
    | none => rfl
    | some o =>
      by_cases hm : M2 d k F
      · rcases hm with rfl | rfl
        · obtain ⟨u, hu⟩ := hD1.some
          rw [hu] at nF
          cases nF
        · rw [hK1.1] at nF
          cases nF
      · rw [G1.sx F o hm hF] at nF
        cases nF
  have nFd := hD1.neNew nF
  have nFk : F ≠ k := (ne_of_none hK1.1 nF).symm
  have hD2 := hD1.new (o := .lst [v1]) nF
  have G2 := G1.new (o := .lst [v1]) nF
  have s2 : Same H1 (upd H1 F (.lst [v1])) := same_new nF
  refine ⟨_, rfl, d, L, 3, rfl, hD2, by decide, by decide, fun g H3 a3 b3 hD3 hB3 => ?_⟩
  have G23 : Go (· = d) (upd H1 F (.lst [v1])) H3 := Go.but hD2 hB3 rfl
  have G3 := G2.trans (G23.mono fun b e => .inl e)
  refine ⟨g, rfl, by omega, by omega, ?_⟩
  have hF3 := G23.at (upd_same : (upd H1 F (.lst [v1])) F = _) nFd.1
  have hk3 := G23.at (s2 _ _ hK1.1) nkd
  have ndd : kd ≠ d := by
    obtain ⟨zs, i0, i1, i2, z1, _⟩ := hD
    exact ne_of hkd z1 (fun z => by cases z)
  have ndk : kd ≠ k := ne_of hkd hk (fun z => by cases z)
  have hkd3 := G23.at (s2 _ _ hK1.2) ndd
  have hR3 : Rp H3 v1 (enc t1) := (hR1.to (Imm.same s2)).to G23.im
  refine for_range (lo := 0) (n := g.toNat) (fun i σ H' => (∃ x5, σ = [some (.ref d), some (.ref k), some (.ref sc), some (.int (4 - (n : Int))), some (.ref F), x5]) ∧ ∃ (us : List V) (ts : List Thing) (r' : Nat), us.length ≤ i + 1 ∧ ts ≠ [] ∧ H' F = some (.lst us) ∧ RpL H' us (encs ts) ∧ TsOk C False ns n ts ∧ cntB ts + r' = r ∧
    Dr H' d L ∧ KtC kvs H' k kd r' fig wide ∧ Go (M2 d k) H H') ⟨⟨_, rfl⟩, [v1], [t1], ra, Nat.le_refl _, by simp, hF3, rpl_cons hR3 rpl_nil, ⟨hT1, trivial⟩, by show cntT t1 + 0 + ra = r; omega, hD3, ⟨hk3, hkd3⟩, G3⟩ (fun i σ H4 hi hP => ?_) (fun σ H4 hP => ?_)
  · obtain ⟨⟨x5, rfl⟩, us, ts, r', hus, hts, hF4, hR4, hT4, ec, hD4, hK4, G4⟩ := hP
    refine ⟨_, rfl, k, _, 0, _, rfl, rfl, SqL.of hK4.1, rfl, _, 0, rfl, rfl, _, rfl, ite2 (fun c5 => ?_) (fun c5 => ?_)⟩
    · have hr1 : (0 : Int) < (r' : Int) := of_decide_eq_true c5
      refine ⟨_, rfl, .inl ⟨rfl, _, SqL.of hF4⟩, _, rfl, _, rfl, _, rfl, _, rfl, d, L, k, kd, sc, r', fig, wide, ns, rfl, hD4, hK4, nkd, nkL, by omega, by omega, G4.at hsc nMsc, nsd, nsk, ⟨hSc, hnn, hV.to G4.im⟩, hne, hlen, fun v c r'' H5 hp e5 hD5 hK5 G45 => ?_⟩
      obtain ⟨t, hR, hT, hc⟩ := hp
      have hF5 := G45.at hF4 (fun z => z.elim nFd.1 nFk)
      have nFL := nFd.2
      refine ⟨F, us, v, rfl, rfl, hF5, szl (by omega), ?_⟩
      have i45 : Imm H4 (upd H5 F (.lst (us ++ [v]))) := G45.im.upd fun xs e => by rw [hF4] at e; cases e
      have i5 : Imm H5 (upd H5 F (.lst (us ++ [v]))) := (Imm.refl H5).upd fun xs e => by rw [hF5] at e; cases e
      refine ⟨⟨_, rfl⟩, us ++ [v], ts ++ [t], r'', ?_, ?_, upd_same, ?_, ?_, ?_, hD5.upd nFd.1 nFL, ⟨?_, ?_⟩, (G4.trans G45).own nFH⟩
      · rw [List.length_append]
        show us.length + 1 ≤ i + 1 + 1
        omega
      · simp
      · rw [encs_append]
        exact (hR4.to i45).append (rpl_cons (hR.to i5) rpl_nil)
      · rw [tsok_iff] at hT4 ⊢
        intro u hu
        rcases List.mem_append.mp hu with h1 | h1
        · exact hT4 u h1
        · rw [List.mem_singleton.mp h1]
          exact hT
      · rw [cntB_append]
        show cntB ts + (cntT t + 0) + r'' = r
        omega
      · rw [upd_ne nFk.symm]
        exact hK5.1
      · have nFkd : kd ≠ F := ne_of hK5.2 hF5 (fun z => by cases z)
        rw [upd_ne nFkd]
        exact hK5.2
    · exact ⟨⟨_, rfl⟩, us, ts, r', by omega, hts, hF4, hR4, hT4, ec, hD4, hK4, G4⟩
  · obtain ⟨⟨x5, rfl⟩, us, ts, r', hus, hts, hF4, hR4, hT4, ec, hD4, hK4, G4⟩ := hP
    refine ⟨_, rfl, F, us, rfl, .inl ⟨SqL.of hF4, fun p np => ?_⟩⟩
    have ip : Imm H4 (upd H4 p (.tup us)) := Imm.same (same_new np)
    exact q _ (cntB ts) r' _ ⟨ts, hts, rp_tup upd_same (hR4.to ip), hT4, rfl⟩ ec (hD4.new np) ⟨same_new np _ _ hK4.1, same_new np _ _ hK4.2⟩ (G4.new np)
theorem fn_none {f : Addr} {fd : FuncData} {k : Nat} {ps : List Str} : FnOk P w K mg base CX0 k f fd ps (fun _ _ _ _ => False) :=
  ⟨fun _ _ _ _ h => h.elim, fun _ _ _ _ _ _ _ _ _ _ _ _ _ h => h.elim⟩
theorem ok_drawing (T : Tops w K mg) (kvs : List (Key × V)) (ks : List Str) (C : Str → Prop) : ∀ n : Nat, FnOk P w K mg base CX0 (6 + 2 * n) T.fl_drawn_body T.dl_drawn_body ["_law_draw", "_law_kit", "_law_scope", "_law_deep"] (spDrawBodyC kvs ks C n)
  | 0 => ok_drawn_body T kvs ks C 0 (ok_drawn_thing T kvs ks C 0 fn_none)
  | n + 1 => ok_drawn_body T kvs ks C (n + 1) (ok_drawn_thing T kvs ks C (n + 1) (by
      have := ok_drawing T kvs ks C n
      rw [show 4 + 2 * (n + 1) = 6 + 2 * n by omega]
      exact this))
end
end K08

set_option Elab.async false
set_option linter.all false
set_option maxRecDepth 100000
set_option maxHeartbeats 4000000
namespace K08
open PySem PySem.Spec PyProof.Rows L2 OG
open C8 (pss_cut pe_gc)

section
variable {P : Program} {w : World} {K : PySem.W.Frag} {mg : Str → Option Value} {base : Heap}
theorem wfs_len (pd : Addr) (l : Int) : (wfs pd l).length ≤ 100 := by show 2 ≤ 100; decide
theorem ok_end_value (T : Tops w K mg) : FnOk P w K mg base CX0 1 T.fend_value T.dend_value ["end", "scope"] spEndV := by
  refine T.Fend_value.ok (k := 0) scend_value (fun vs H Q E h => ?_) (fun cdv A outer s H vs Q E hr h => ?_)
  · obtain ⟨v, a, e, sc, env, m, rfl, _⟩ := h
    rfl
  obtain ⟨v, a, e, sc, env, m, rfl, hR, ⟨kvs, h1, h2, h3⟩, hin, q⟩ := h
  refine ⟨_, (pss_cons (ps_asg (pv 0) (pg_tup rfl (pgs_cons (pg_name (i := 2) scend_value.nd rfl (Or.inl rfl)) (pgs_cons (pg_name (i := 3) scend_value.nd rfl (Or.inl rfl)) pgs_nil))))
 (pss_one (ps_ret (pe_op op_add (pe_dget (hu_of hr) (pv 1) (pv 2) (fun _ _ => rfl)) (pv 3))))), ?_⟩
  obtain ⟨b, v1, v2, rfl, hb, rfl, rfl⟩ := rp_t2 hR
  refine ⟨_, rfl, b, _, rfl, SqT.of hb, rfl, _, _, rfl, _, _, rfl, rfl, ?_⟩
  have g := DGet.k (k := .inr e.1) h1
  rw [h3 e.1 hin] at g
  exact ⟨_, rfl, _, rfl, a, _, rfl, g, _, rfl, _, _, rfl, rfl, q⟩
theorem ok_lesser (T : Tops w K mg) : FnOk P w K mg base CX0 1 T.flesser_size T.dlesser_size ["size", "word"] spLess := by
  refine T.Flesser_size.ok (k := 0) sclesser_size (fun vs H Q E h => ?_) (fun cdv A outer s H vs Q E hr h => ?_)
  · obtain ⟨s, w, rfl, _⟩ := h
    rfl
  obtain ⟨s, w, rfl, q⟩ := h
  refine ⟨_, (pss_cons (ps_if (pt_cmpR op_eq (pv 1) pe_str (nomark _))
  (pss_one (ps_ret (pe_op op_sub (pv 0) pe_int)))
  pss_nil)
 (pss_one (ps_ret (pe_ifExp (pt_cmpR op_eq (pv 1) pe_str (nomark _)) (pe_op op_fdiv (pv 0) pe_int) (pe_op op_fdiv (pv 0) pe_int))))), ?_⟩
  unfold less at q
  refine ⟨_, rfl, rfl, _, rfl, ite2 (fun c => ?_) (fun c => ?_)⟩
  · have e : w = "less" := V.str.inj (of_decide_eq_true c)
    rw [if_pos e] at q
    exact ⟨_, rfl, s, 1, rfl, rfl, q⟩
  · have e : ¬ w = "less" := fun z => c (by rw [z]; rfl)
    rw [if_neg e] at q
    refine ⟨_, rfl, rfl, _, rfl, ite2 (fun c => ?_) (fun c => ?_)⟩
    · have e : w = "halves" := V.str.inj (of_decide_eq_true c)
      rw [if_pos e] at q
      exact ⟨_, rfl, s, 2, rfl, rfl, ⟨by decide, by decide⟩, q⟩
    · have e : ¬ w = "halves" := fun z => c (by rw [z]; rfl)
      rw [if_neg e] at q
      exact ⟨_, rfl, s, 3, rfl, rfl, ⟨by decide, by decide⟩, q⟩
theorem ok_visit (T : Tops w K mg) : FnOk P w K mg base CX0 1 T.fWalk_visit T.dWalk_visit ["self"] (spVisit T.CWalk) := by
  refine T.FWalk_visit.ok (k := 0) scWalk_visit (fun vs H Q E h => ?_) (fun cdv A outer s H vs Q E hr h => ?_)
  · obtain ⟨o, dx, pd, l, rfl, _⟩ := h
    rfl
  obtain ⟨o, dx, pd, l, rfl, hW, hl, q⟩ := h
  refine ⟨_, (pss_cons (ps_if (pt_cmpR op_lt (pe_fld (pv 0) rfl) pe_int (nomark _))
  (pss_one ps_never)
  pss_nil)
 (pss_one (ps_fldaug (pv 0) pe_int in_sub))), ?_⟩
  refine ⟨_, rfl, o, _, dx, _, _, rfl, hW, T.clWalk, T.naWalk_left, rfl, ?_⟩
  refine ⟨l, 1, rfl, rfl, _, rfl, ite2 (fun c => absurd (of_decide_eq_true c) (by omega)) (fun _ => ?_)⟩
  exact ⟨_, rfl, o, _, dx, _, _, rfl, hW, T.clWalk, T.naWalk_left, rfl, _, _, rfl, rfl, dx, _, hW, by show 2 < 1000; decide, q⟩
theorem way_drop : ∀ {ts : List Thing} {i : Nat} {t : Thing}, ts[i]? = some t → isAg t = false → wayOf (ts.drop i) = wayOf (ts.drop (i + 1))
  | ts, i, t, h, ha => by
    have hi := (List.getElem?_eq_some_iff.mp h).1
    rw [List.drop_eq_getElem_cons hi, (List.getElem?_eq_some_iff.mp h).2]
    cases t <;> first | rfl | cases ha
theorem way_here {ts : List Thing} {i : Nat} {k : Int} {w : Str} (h : ts[i]? = some (.again k w)) : wayOf (ts.drop i) = some (k, w) := by
  have hi := (List.getElem?_eq_some_iff.mp h).1
  rw [List.drop_eq_getElem_cons hi, (List.getElem?_eq_some_iff.mp h).2]
  rfl
theorem kind_ag {t : Thing} (h : isAg t = false) : kindT t ≠ "again" := by
  cases t with
  | again k w => cases h
  | step k => show ("step" : Str) ≠ "again"; decide +kernel
  | loop x a b c => show ("for" : Str) ≠ "again"; decide +kernel
  | test a b x y => show ("if" : Str) ≠ "again"; decide +kernel
  | twice b => show ("double" : Str) ≠ "again"; decide +kernel
  | call x e => show ("call" : Str) ≠ "again"; decide +kernel
theorem ok_again_of (T : Tops w K mg) : FnOk P w K mg base CX0 1 T.fagain_of T.dagain_of ["plan"] spAgOf := by
  refine T.Fagain_of.ok (k := 0) scagain_of (fun vs H Q E h => ?_) (fun cdv A outer s H vs Q E hr h => ?_)
  · obtain ⟨v, ts, rfl, _⟩ := h
    rfl
  obtain ⟨v, ts, rfl, hR, q⟩ := h
  refine ⟨_, (pss_cons (ps_for PassesOwn.never rfl (pi_tup (pv 0)) (pg_name (i := 1) scagain_of.nd rfl (Or.inl rfl))
  (pss_one (ps_if (pt_cmpR op_eq (pe_ix ix_tup (pv 1) pe_int (fun _ _ => rfl)) pe_str (nomark _))
  (pss_one (ps_ret (pv 1)))
  pss_nil)))
 (pss_one (ps_ret pe_non))), ?_⟩
  obtain ⟨a, vs, rfl, ha, hvs⟩ := id hR
  have hl := hvs.length
  rw [encs_length] at hl
  refine ⟨_, rfl, a, rfl, ⟨_, SqT.of ha⟩, ?_⟩
  refine for_tup (xs := vs) (fun i σ H' => (∃ x1, σ = [some (.ref a), x1]) ∧ H' = H ∧ wayOf (ts.drop i) = wayOf ts) ⟨⟨_, rfl⟩, rfl, rfl⟩ (fun i σ H' _ hP => by rw [hP.2.1]; exact SqT.of ha) (fun i x σ H2 hx hP => ?_) (fun σ H2 hP => ?_)
  · obtain ⟨⟨x1, rfl⟩, rfl, hw⟩ := hP
    obtain ⟨t, ht, hRt⟩ := rpl_things hvs hx
    cases hag : isAg t with
    | true =>
      cases t with
      | again k w0 =>
        obtain ⟨b, v1, v2, v3, rfl, hb, rfl, rfl, rfl⟩ := rp_t3 hRt
        refine ⟨_, rfl, b, _, 0, _, rfl, rfl, SqT.of hb, atI_nat (j := 0) rfl, rfl, _, rfl, iteT ⟨_, rfl, ?_⟩⟩
        refine q _ ?_
        rw [← hw, way_here ht]
        exact ⟨b, rfl, hb⟩
      | _ => cases hag
    | false =>
      have hk := kind_ag hag
      obtain ⟨b, us, rfl, hb⟩ := rp_kind hRt
      refine ⟨_, rfl, b, _, 0, _, rfl, rfl, SqT.of hb, atI_nat (j := 0) rfl, rfl, _, rfl, ite2 (fun c => absurd (V.str.inj (of_decide_eq_true c)) hk) (fun _ => ⟨⟨_, rfl⟩, rfl, ?_⟩)⟩
      rw [← way_drop ht hag]
      exact hw
  · obtain ⟨⟨x1, rfl⟩, rfl, hw⟩ := hP
    rw [hl, List.drop_length] at hw
    have : wayOf ts = none := hw.symm
    exact q _ (by rw [this])
end
end K08

set_option Elab.async false
set_option linter.all false
set_option maxRecDepth 100000
set_option maxHeartbeats 4000000
namespace K08
open PySem PySem.Spec PyProof.Rows L2 OG
open C8 (pss_cut pe_gc)

section
variable {P : Program} {w : World} {K : PySem.W.Frag} {mg : Str → Option Value} {base : Heap}
theorem ok_step_steps (T : Tops w K mg) (n d : Nat) : FnOk P w K mg base CX0 1 T.fstep_steps T.dstep_steps ["walk", "thing", "scope"] (spSt T.CWalk (fun t => kindT t = "step") n d) := by
  refine T.Fstep_steps.ok (k := 0) scstep_steps (fun vs H Q E h => ?_) (fun cdv A outer s H vs Q E hr h => ?_)
  · obtain ⟨o, dx, pd, a, l, Pl, sc, env, v, t, rfl, _⟩ := h
    rfl
  obtain ⟨o, dx, pd, a, l, Pl, sc, env, v, t, rfl, hk, hW, hR, hT, hc, hl, q⟩ := h
  obtain ⟨k, rfl⟩ := kind_step hk
  refine ⟨_, (pss_one (ps_ret (pe_ix ix_tup (pv 1) pe_int (fun _ _ => rfl)))), ?_⟩
  obtain ⟨b, v1, v2, rfl, hb, rfl, rfl⟩ := rp_t2 hR
  refine ⟨_, rfl, b, _, 1, _, rfl, rfl, SqT.of hb, atI_nat (j := 1) rfl, q H ?_ (Go.refl _ H)⟩
  have e : l - ((0 : Nat) : Int) = l := Int.sub_zero l
  show WkAt H T.CWalk o dx pd (l - ((0 : Nat) : Int))
  rw [e]
  exact hW.wk
theorem ok_for_steps (T : Tops w K mg) (m d k : Nat) (Gbody_steps : FnOk P w K mg base CX0 k T.fbody_steps T.dbody_steps ["walk", "body", "scope"] (spBs T.CWalk m d)) (hk1 : 1 ≤ k) : FnOk P w K mg base CX0 (k + 1) T.ffor_steps T.dfor_steps ["walk", "thing", "scope"] (spSt T.CWalk (fun t => kindT t = "for") (m + 1) d) := by
  have Gend_value : FnOk P w K mg base CX0 1 T.fend_value T.dend_value ["end", "scope"] spEndV := ok_end_value T
  have GWalk_visit : FnOk P w K mg base CX0 1 T.fWalk_visit T.dWalk_visit ["self"] (spVisit T.CWalk) := ok_visit T
  refine T.Ffor_steps.ok (k := k) scfor_steps (fun vs H Q E h => ?_) (fun cdv A outer s H vs Q E hr h => ?_)
  · obtain ⟨o, dx, pd, a, l, Pl, sc, env, v, t, rfl, _⟩ := h
    rfl
  obtain ⟨o, dx, pd, a, l, Pl, sc, env, v, t, rfl, hk, hW, hR, hT, hc, hl, q⟩ := h
  obtain ⟨x, e, f, b, rfl⟩ := kind_for hk
  refine ⟨_, (pss_cons (ps_asg (pe_slice sl_tupA (pv 1) (po_some pe_int) po_none) (pg_tup rfl (pgs_cons (pg_name (i := 6) scfor_steps.nd rfl (Or.inl rfl)) (pgs_cons (pg_name (i := 7) scfor_steps.nd rfl (Or.inl rfl)) (pgs_cons (pg_name (i := 8) scfor_steps.nd rfl (Or.inl rfl)) (pgs_cons (pg_name (i := 9) scfor_steps.nd rfl (Or.inl rfl)) pgs_nil))))))
 (pss_cons (ps_set (i := 3) scfor_steps.nd rfl (Or.inl rfl) pe_int)
 (pss_cons (ps_set (i := 4) scfor_steps.nd rfl (Or.inl rfl) (pe_call Gend_value (hr.mono (by omega)) (by rfl) T.gend_value T.Fend_value.kp T.bend_value .nil pass0 (pa_cons (pv 7) (pa_cons (pv 2) pa_nil))))
 (pss_cons (ps_set (i := 5) scfor_steps.nd rfl (Or.inl rfl) (pe_call Gend_value (hr.mono (by omega)) (by rfl) T.gend_value T.Fend_value.kp T.bend_value .nil pass0 (pa_cons (pv 8) (pa_cons (pv 2) pa_nil))))
 (pss_cons (ps_while PassesOwn.never (pt_cmpR op_le (pv 4) (pv 5) (nomark _))
  (pss_cons (ps_expr (pe_meth0 (pv 0) T.clWalk T.mtWalk_visit GWalk_visit (hr.mono (by omega)) T.bWalk_visit .nil pass0))
 (pss_cons (ps_aug (i := 3) scfor_steps.nd rfl (Or.inl rfl) (pe_call Gbody_steps (hr.mono (by omega)) (by rfl) T.gbody_steps T.Fbody_steps.kp T.bbody_steps .nil pass0 (pa_cons (pv 0) (pa_cons (pv 9) (pa_cons (pe_dstar (pv 2) (pv 6) (pv 4)) pa_nil)))) ip_add)
 (pss_one (ps_aug (i := 4) scfor_steps.nd rfl (Or.inl rfl) pe_int ip_add)))))
 (pss_one (ps_ret (pv 3)))))))), ?_⟩
  obtain ⟨ta, v1, v2, v3, v4, v5, rfl, ha, rfl, rfl, h3, h4, h5⟩ := rp_t5 hR
  obtain ⟨hx, hxs, he, hf, hbn, m', em, hB⟩ := hT
  have em2 : m' = m := by omega
  subst em2
  refine ⟨_, rfl, 1, rfl, ta, _, rfl, SqT.of ha, (fun z => absurd z.1 (show ¬ HT.sIx 5 0 (some 1) = 0 by decide)), fun _ p np => ?_⟩
  have s0 : Same H (upd H p (.tup [.str x, v3, v4, v5])) := same_new np
  refine ⟨p, _, rfl, SqT.of upd_same, rfl, _, _, rfl, _, _, rfl, _, _, rfl, _, _, rfl, rfl, ?_⟩
  have g0 : Go (· = o) H (upd H p (.tup [.str x, v3, v4, v5])) := Go.same s0
  have sc1 := hW.scp.go hW.wk g0
  refine ⟨_, rfl, _, rfl, _, a, e, _, env, _, rfl, h3.to g0.im, sc1, end_in he, ?_⟩
  refine ⟨_, rfl, _, rfl, _, a, f, _, env, _, rfl, h4.to g0.im, sc1, end_in hf, ?_⟩
  obtain ⟨B, hbd, hB0, hBm⟩ := hW.bd
  have lo1 := end_bd he hbd hW.e0 hB0
  have hi1 := end_bd hf hbd hW.e0 hB0
  generalize hlo : endV env e = lo at lo1
  generalize hhi : endV env f = hi at hi1
  have hl' : ((turns (fun i => stB (callS Pl d) (setE env x i) b) lo (hi + 1 - lo).toNat).2 : Int) ≤ l := by rw [← hlo, ← hhi]; exact hl
  replace q : ∀ H', WkAt H' T.CWalk o dx pd (l - (turns (fun i => stB (callS Pl d) (setE env x i) b) lo (hi + 1 - lo).toNat).2) → Go (· = o) H H' → Q (.int (turns (fun i => stB (callS Pl d) (setE env x i) b) lo (hi + 1 - lo).toNat).1) H' := by rw [← hlo, ← hhi]; exact q
  generalize hF : (fun i => stB (callS Pl d) (setE env x i) b) = F at hl' q
  generalize hN : (hi + 1 - lo).toNat = N at hl' q
  refine ⟨fun j σ H' => ∃ i : Nat, j = N - i ∧ i ≤ N ∧ ∃ tot num : Int, σ = [some (.ref o), some (.ref ta), some (.ref a), some (.int tot), some (.int num), some (.int hi), some (.str x), some v3, some v4, some v5] ∧ tot = (turns F lo i).1 ∧ num = lo + i ∧ WkAt H' T.CWalk o dx pd (l - (turns F lo i).2) ∧ Go (· = o) H H', ⟨N, 0, rfl, Nat.zero_le _, 0, lo, rfl, rfl, (Int.add_zero lo).symm, ?_, g0⟩, ?_⟩
  · show WkAt _ T.CWalk o dx pd (l - ((0 : Nat) : Int))
    rw [show l - ((0 : Nat) : Int) = l from Int.sub_zero l]
    exact s0 _ _ hW.wk
  rintro j σ H2 ⟨i, rfl, hi2, tot, num, rfl, rfl, rfl, hW2, G2⟩
  refine ⟨_, rfl, _, rfl, _, _, rfl, rfl, _, rfl, ite2 (fun c => ?_) (fun c => ?_)⟩
  · have hlt : i < N := by
      have := of_decide_eq_true c
      omega
    have tl := turns_lt (f := F) (lo := lo) hlt
    refine ⟨fun σ' H' => ∃ tot num : Int, σ' = [some (.ref o), some (.ref ta), some (.ref a), some (.int tot), some (.int num), some (.int hi), some (.str x), some v3, some v4, some v5] ∧ tot = (turns F lo (i + 1)).1 ∧ num = lo + (i + 1 : Nat) ∧ WkAt H' T.CWalk o dx pd (l - (turns F lo (i + 1)).2) ∧ Go (· = o) H H', fun σ' H' h => ⟨N - (i + 1), by omega, i + 1, rfl, hlt, h⟩, ?_⟩
    refine ⟨_, rfl, o, dx, _, rfl, hW2, rfl, o, dx, pd, _, rfl, hW2, by omega, ?_⟩
    have W3 := wk_set (l - (turns F lo i).2 - 1) hW2
    have G3 := G2.trans W3.2
    obtain ⟨kvs, k1, k2, k3⟩ := hW.scp.go hW.wk G3
    refine ⟨_, rfl, _, rfl, _, rfl, fun p2 np2 => ⟨_, rfl, a, kvs, rfl, ne_of_none k1 np2, upd_same, same_new np2 _ _ k1, szl (by omega), fun r nr => ?_⟩⟩
    have npr := star_ne nr
    refine ⟨_, rfl, _, rfl, .inr x, rfl, ?_, upd_same, ?_⟩
    · rw [upd_ne npr]
      exact upd_same
    have ss := star_same (u3 := .dK []) (u4 := .dK [(.inr x, .int (lo + i))]) (u5 := .dK (putK kvs (.inr x) (.int (lo + i)))) np2 nr
    have G4 : Go (· = o) H _ := G3.trans (Go.same ss)
    have xn := name_nn hx
    have xe := name_ne hx
    have ew : setE env x (lo + i) "n" = env "n" := if_neg (fun z => xn z.symm)
    have e0 : setE env x (lo + i) "" = 0 := (if_neg (fun z => xe z.symm)).trans hW.e0
    have eF : F (lo + i) = stB (callS Pl d) (setE env x (lo + i)) b := by rw [← hF]
    refine ⟨o, dx, pd, p2, _, Pl, sc ++ [x], setE env x (lo + i), v5, b, rfl, ⟨ss _ _ W3.1, hW.pl.go hW.wk G4, sc_set (m := m' + 1) (by omega) k3 upd_same, List.mem_append_left _ hW.nin, e0, by rw [ew]; exact hW.n0, B + 99, bd_set hbd (by omega) (by omega), by omega, by omega⟩, h5.to G4.im, hB, cnt_body hc, ?_, fun H5 hW5 G5 => ?_⟩
    · rw [← eF]
      omega
    rw [← eF] at hW5 ⊢
    refine ⟨_, _, rfl, rfl, _, rfl, _, _, rfl, rfl, _, _, rfl, rfl, ?_, ?_, G4.trans G5⟩
    · show lo + (i : Int) + 1 = lo + ((i + 1 : Nat) : Int)
      omega
    · have e5 : l - ((turns F lo (i + 1)).2 : Int) = l - (turns F lo i).2 - 1 - (F (lo + i)).2 := by
        show l - (((turns F lo i).2 + (1 + (F (lo + i)).2) : Nat) : Int) = _
        omega
      rw [e5]
      exact hW5
  · have e1 : i = N := by
      have := of_decide_eq_false (Bool.eq_false_iff.mpr c)
      omega
    subst e1
    exact ⟨_, rfl, q H2 hW2 G2⟩
theorem ok_if_steps (T : Tops w K mg) (m d k : Nat) (Gbody_steps : FnOk P w K mg base CX0 k T.fbody_steps T.dbody_steps ["walk", "body", "scope"] (spBs T.CWalk m d)) (hk1 : 1 ≤ k) : FnOk P w K mg base CX0 (k + 1) T.fif_steps T.dif_steps ["walk", "thing", "scope"] (spSt T.CWalk (fun t => kindT t = "if") (m + 1) d) := by
  have Gend_value : FnOk P w K mg base CX0 1 T.fend_value T.dend_value ["end", "scope"] spEndV := ok_end_value T
  refine T.Fif_steps.ok (k := k) scif_steps (fun vs H Q E h => ?_) (fun cdv A outer s H vs Q E hr h => ?_)
  · obtain ⟨o, dx, pd, a, l, Pl, sc, env, v, t, rfl, _⟩ := h
    rfl
  obtain ⟨o, dx, pd, a, l, Pl, sc, env, v, t, rfl, hk, hW, hR, hT, hc, hl, q⟩ := h
  obtain ⟨e, f, b, b2, rfl⟩ := kind_if hk
  refine ⟨_, (pss_cons (ps_asg (pe_slice sl_tupA (pv 1) (po_some pe_int) po_none) (pg_tup rfl (pgs_cons (pg_name (i := 4) scif_steps.nd rfl (Or.inl rfl)) (pgs_cons (pg_name (i := 5) scif_steps.nd rfl (Or.inl rfl)) (pgs_cons (pg_name (i := 6) scif_steps.nd rfl (Or.inl rfl)) (pgs_cons (pg_name (i := 7) scif_steps.nd rfl (Or.inl rfl)) pgs_nil))))))
 (pss_cons (ps_set (i := 3) scif_steps.nd rfl (Or.inl rfl) (pe_cmpR op_le (pe_call Gend_value (hr.mono (by omega)) (by rfl) T.gend_value T.Fend_value.kp T.bend_value .nil pass0 (pa_cons (pv 4) (pa_cons (pv 2) pa_nil))) (pe_call Gend_value (hr.mono (by omega)) (by rfl) T.gend_value T.Fend_value.kp T.bend_value .nil pass0 (pa_cons (pv 5) (pa_cons (pv 2) pa_nil))) (nomark _)))
 (pss_one (ps_ret (pe_call Gbody_steps (hr.mono (by omega)) (by rfl) T.gbody_steps T.Fbody_steps.kp T.bbody_steps .nil pass0 (pa_cons (pv 0) (pa_cons (pe_ifExp (pt_val (pv 3)) (pv 6) (pv 7)) (pa_cons (pv 2) pa_nil)))))))), ?_⟩
  obtain ⟨ta, v1, v2, v3, v4, v5, rfl, ha, rfl, h2, h3, h4, h5⟩ := rp_t5 hR
  obtain ⟨he, hf, hbn, m', em, hB, hB2⟩ := hT
  have em2 : m' = m := by omega
  subst em2
  have hc' : 1 + cntB b + cntB b2 ≤ 1000 := hc
  refine ⟨_, rfl, 1, rfl, ta, _, rfl, SqT.of ha, (fun z => absurd z.1 (show ¬ HT.sIx 5 0 (some 1) = 0 by decide)), fun _ p np => ?_⟩
  have s0 : Same H (upd H p (.tup [v2, v3, v4, v5])) := same_new np
  refine ⟨p, _, rfl, SqT.of upd_same, rfl, _, _, rfl, _, _, rfl, _, _, rfl, _, _, rfl, rfl, ?_⟩
  have g0 : Go (· = o) H (upd H p (.tup [v2, v3, v4, v5])) := Go.same s0
  have sc1 := hW.scp.go hW.wk g0
  refine ⟨_, rfl, _, rfl, _, a, e, _, env, _, rfl, h2.to g0.im, sc1, end_in he, ?_⟩
  refine ⟨_, rfl, _, rfl, _, a, f, _, env, _, rfl, h3.to g0.im, sc1, end_in hf, ?_⟩
  have hW1 : WIn (upd H p (.tup [v2, v3, v4, v5])) T.CWalk o dx pd a l Pl sc env m' d := by
    obtain ⟨B, b1, b2, b3⟩ := hW.bd
    obtain ⟨kvs, k1, k2, k3⟩ := sc1
    exact ⟨s0 _ _ hW.wk, hW.pl.go hW.wk g0, ⟨kvs, k1, by omega, k3⟩, hW.nin, hW.e0, hW.n0, B, b1, b2, by omega⟩
  refine ⟨_, _, rfl, rfl, ?_⟩
  refine ⟨_, rfl, ?_⟩
  refine ⟨_, rfl, _, rfl, ite2 (fun c => ?_) (fun c => ?_)⟩
  · have c1 : endV env e ≤ endV env f := of_decide_eq_true c
    have es : stT (callS Pl d) env (.test e f b b2) = stB (callS Pl d) env b := if_pos c1
    rw [es] at hl q
    exact ⟨_, rfl, _, rfl, o, dx, pd, a, l, Pl, sc, env, v4, b, rfl, hW1, h4.to g0.im, hB, by omega, hl, fun H' w' G' => q H' w' (g0.trans G')⟩
  · have c1 : ¬ endV env e ≤ endV env f := of_decide_eq_false (Bool.eq_false_iff.mpr c)
    have es : stT (callS Pl d) env (.test e f b b2) = stB (callS Pl d) env b2 := if_neg c1
    rw [es] at hl q
    exact ⟨_, rfl, _, rfl, o, dx, pd, a, l, Pl, sc, env, v5, b2, rfl, hW1, h5.to g0.im, hB2, by omega, hl, fun H' w' G' => q H' w' (g0.trans G')⟩
theorem ok_double_steps (T : Tops w K mg) (m d k : Nat) (Gbody_steps : FnOk P w K mg base CX0 k T.fbody_steps T.dbody_steps ["walk", "body", "scope"] (spBs T.CWalk m d)) (hk1 : 1 ≤ k) : FnOk P w K mg base CX0 (k + 1) T.fdouble_steps T.ddouble_steps ["walk", "thing", "scope"] (spSt T.CWalk (fun t => kindT t = "double") (m + 1) d) := by
  have GWalk_visit : FnOk P w K mg base CX0 1 T.fWalk_visit T.dWalk_visit ["self"] (spVisit T.CWalk) := ok_visit T
  refine T.Fdouble_steps.ok (k := k) scdouble_steps (fun vs H Q E h => ?_) (fun cdv A outer s H vs Q E hr h => ?_)
  · obtain ⟨o, dx, pd, a, l, Pl, sc, env, v, t, rfl, _⟩ := h
    rfl
  obtain ⟨o, dx, pd, a, l, Pl, sc, env, v, t, rfl, hk, hW, hR, hT, hc, hl, q⟩ := h
  obtain ⟨b, rfl⟩ := kind_double hk
  refine ⟨_, (pss_cons (ps_set (i := 3) scdouble_steps.nd rfl (Or.inl rfl) pe_int)
 (pss_cons (ps_for PassesOwn.never rfl (pi_range1 (by rfl) T.mrange (pa_cons (pe_bits (pe_dget (hu_of hr) (pv 2) pe_str (fun _ _ => rfl))) pa_nil)) (pg_name (i := 4) scdouble_steps.nd rfl (Or.inl rfl))
  (pss_cons (ps_expr (pe_meth0 (pv 0) T.clWalk T.mtWalk_visit GWalk_visit (hr.mono (by omega)) T.bWalk_visit .nil pass0))
 (pss_one (ps_aug (i := 3) scdouble_steps.nd rfl (Or.inl rfl) (pe_call Gbody_steps (hr.mono (by omega)) (by rfl) T.gbody_steps T.Fbody_steps.kp T.bbody_steps .nil pass0 (pa_cons (pv 0) (pa_cons (pe_ix ix_tup (pv 1) pe_int (fun _ _ => rfl)) (pa_cons (pv 2) pa_nil)))) ip_add))))
 (pss_one (ps_ret (pv 3))))), ?_⟩
  obtain ⟨ta, v1, v2, rfl, ha, rfl, h2⟩ := rp_t2 hR
  obtain ⟨hbn, m', em, hB⟩ := hT
  have em2 : m' = m := by omega
  subst em2
  have hc' : 1 + cntB b ≤ 1000 := hc
  obtain ⟨kvs, k1, k2, k3⟩ := id hW.scp
  have g := DGet.k (k := .inr "n") k1
  rw [k3 "n" (List.mem_cons_of_mem _ hW.nin)] at g
  obtain ⟨B, b1, b2, b3⟩ := hW.bd
  have hn := b1 "n" hW.nin
  have hbits : Builtin.Int.intBits (env "n") ≤ 64 := intBits_le (k := 64) (by omega)
  replace hl : ((turns (fun _ => stB (callS Pl d) env b) 0 (Builtin.Int.intBits (env "n"))).2 : Int) ≤ l := hl
  replace q : ∀ H', WkAt H' T.CWalk o dx pd (l - (turns (fun _ => stB (callS Pl d) env b) 0 (Builtin.Int.intBits (env "n"))).2) → Go (· = o) H H' → Q (.int (turns (fun _ => stB (callS Pl d) env b) 0 (Builtin.Int.intBits (env "n"))).1) H' := q
  refine ⟨_, rfl, a, _, rfl, g, env "n", rfl, ?_⟩
  generalize Builtin.Int.intBits (env "n") = N at hl q hbits
  generalize hF : (fun (_ : Int) => stB (callS Pl d) env b) = F at hl q
  refine ⟨(N : Int), rfl, by omega, by omega, ?_⟩
  refine for_range (n := N) (fun i σ H' => ∃ tot : Int, (∃ x4, σ = [some (.ref o), some (.ref ta), some (.ref a), some (.int tot), x4]) ∧ tot = (turns F 0 i).1 ∧ WkAt H' T.CWalk o dx pd (l - (turns F 0 i).2) ∧ Go (· = o) H H') ⟨0, ⟨_, rfl⟩, rfl, ?_, Go.refl _ H⟩ (fun i σ H2 hi hP => ?_) (fun σ H2 hP => ?_)
  · show WkAt _ T.CWalk o dx pd (l - ((0 : Nat) : Int))
    rw [show l - ((0 : Nat) : Int) = l from Int.sub_zero l]
    exact hW.wk
  · obtain ⟨tot, ⟨x4, rfl⟩, rfl, hW2, G2⟩ := hP
    have hlt : i < N := by omega
    have tl := turns_lt (f := F) (lo := 0) hlt
    refine ⟨_, rfl, o, dx, _, rfl, hW2, rfl, o, dx, pd, _, rfl, hW2, by omega, ?_⟩
    have W3 := wk_set (l - (turns F 0 i).2 - 1) hW2
    have G3 := G2.trans W3.2
    have sc3 := hW.scp.go hW.wk G3
    have eF : F (0 + i) = stB (callS Pl d) env b := by rw [← hF]
    obtain ⟨kv3, c1, c2, c3⟩ := sc3
    refine ⟨_, rfl, _, rfl, _, rfl, ta, _, 1, _, rfl, rfl, SqT.of (G3.im _ _ ha), atI_nat (j := 1) rfl, _, rfl, o, dx, pd, a, _, Pl, sc, env, v2, b, rfl, ⟨W3.1, hW.pl.go hW.wk G3, ⟨kv3, c1, by omega, c3⟩, hW.nin, hW.e0, hW.n0, B, b1, b2, by omega⟩, h2.to G3.im, hB, by omega, ?_, fun H5 hW5 G5 => ?_⟩
    · rw [← eF]
      omega
    rw [← eF] at hW5 ⊢
    refine ⟨_, _, rfl, rfl, _, ⟨_, rfl⟩, rfl, ?_, G3.trans G5⟩
    have e5 : l - ((turns F 0 (i + 1)).2 : Int) = l - (turns F 0 i).2 - 1 - (F (0 + i)).2 := by
      show l - (((turns F 0 i).2 + (1 + (F (0 + i)).2) : Nat) : Int) = _
      omega
    rw [e5]
    exact hW5
  · obtain ⟨tot, ⟨x4, rfl⟩, rfl, hW2, G2⟩ := hP
    exact ⟨_, rfl, q H2 hW2 G2⟩
end
end K08

set_option Elab.async false
set_option linter.all false
set_option maxRecDepth 100000
set_option maxHeartbeats 4000000
namespace K08
open PySem PySem.Spec PyProof.Rows L2 OG
open C8 (pss_cut pe_gc)

section
variable {P : Program} {w : World} {K : PySem.W.Frag} {mg : Str → Option Value} {base : Heap}
theorem ok_call_steps (T : Tops w K mg) (n d k : Nat) (Gplan_steps : FnOk P w K mg base CX0 k T.fplan_steps T.dplan_steps ["walk", "name", "size"] (spPs T.CWalk d)) (hk1 : 1 ≤ k) : FnOk P w K mg base CX0 (k + 1) T.fcall_steps T.dcall_steps ["walk", "thing", "scope"] (spSt T.CWalk (fun t => kindT t = "call") n d) := by
  have Gend_value : FnOk P w K mg base CX0 1 T.fend_value T.dend_value ["end", "scope"] spEndV := ok_end_value T
  refine T.Fcall_steps.ok (k := k) sccall_steps (fun vs H Q E h => ?_) (fun cdv A outer s H vs Q E hr h => ?_)
  · obtain ⟨o, dx, pd, a, l, Pl, sc, env, v, t, rfl, _⟩ := h
    rfl
  obtain ⟨o, dx, pd, a, l, Pl, sc, env, v, t, rfl, hk, hW, hR, hT, hc, hl, q⟩ := h
  obtain ⟨x, e, rfl⟩ := kind_call hk
  refine ⟨_, (pss_one (ps_ret (pe_call Gplan_steps (hr.mono (by omega)) (by rfl) T.gplan_steps T.Fplan_steps.kp T.bplan_steps .nil pass0 (pa_cons (pv 0) (pa_cons (pe_ix ix_tup (pv 1) pe_int (fun _ _ => rfl)) (pa_cons (pe_callB (call_max2 rfl) (by rfl) T.mmax (by decide +kernel) (pa_cons pe_int (pa_cons (pe_call Gend_value (hr.mono (by omega)) (by rfl) T.gend_value T.Fend_value.kp T.bend_value .nil pass0 (pa_cons (pe_ix ix_tup (pv 1) pe_int (fun _ _ => rfl)) (pa_cons (pv 2) pa_nil))) pa_nil))) pa_nil)))))), ?_⟩
  obtain ⟨ta, v1, v2, v3, rfl, ha, rfl, rfl, h3⟩ := rp_t3 hR
  obtain ⟨hx, hC, he⟩ := hT
  obtain ⟨B, b1, b2, b3⟩ := hW.bd
  have eb := end_bd he b1 hW.e0 b2
  refine ⟨_, rfl, _, rfl, ta, _, 1, _, rfl, rfl, SqT.of ha, atI_nat (j := 1) rfl, ?_⟩
  refine ⟨_, rfl, ta, _, 2, _, rfl, rfl, SqT.of ha, atI_nat (j := 2) rfl, _, rfl, v3, a, e, _, env, _, rfl, h3, hW.scp, end_in he, 0, endV env e, rfl, ?_⟩
  have e1 : 0 ≤ (if endV env e > 0 then endV env e else 0) ∧ (if endV env e > 0 then endV env e else 0) ≤ B + 99 := by
    split <;> omega
  exact ⟨o, dx, pd, l, Pl, x, _, rfl, hW.wk, hW.pl, hC, e1.1, by omega, hl, q⟩
theorem stB_drop {C : Str → Int → Int × Nat} {env : Str → Int} {ts : List Thing} {i : Nat} {t : Thing} (h : ts[i]? = some t) : stB C env (ts.drop i) = if isAg t = true then stB C env (ts.drop (i + 1)) else ((stT C env t).1 + (stB C env (ts.drop (i + 1))).1, 1 + (stT C env t).2 + (stB C env (ts.drop (i + 1))).2) := by
  have hi := (List.getElem?_eq_some_iff.mp h).1
  rw [List.drop_eq_getElem_cons hi, (List.getElem?_eq_some_iff.mp h).2]
  rfl
theorem cnt_mem : ∀ {ts : List Thing} {t : Thing}, t ∈ ts → cntT t ≤ cntB ts
  | [], t, h => by cases h
  | u :: r, t, h => by
    show cntT t ≤ cntT u + cntB r
    rcases List.mem_cons.mp h with rfl | h
    · omega
    · have := cnt_mem h
      omega
theorem ok_body_steps (T : Tops w K mg) (n d k kf kc : Nat) (Gfor_steps : FnOk P w K mg base CX0 kf T.ffor_steps T.dfor_steps ["walk", "thing", "scope"] (spSt T.CWalk (fun t => kindT t = "for") n d))
    (Gif_steps : FnOk P w K mg base CX0 kf T.fif_steps T.dif_steps ["walk", "thing", "scope"] (spSt T.CWalk (fun t => kindT t = "if") n d))
    (Gdouble_steps : FnOk P w K mg base CX0 kf T.fdouble_steps T.ddouble_steps ["walk", "thing", "scope"] (spSt T.CWalk (fun t => kindT t = "double") n d))
    (Gcall_steps : FnOk P w K mg base CX0 kc T.fcall_steps T.dcall_steps ["walk", "thing", "scope"] (spSt T.CWalk (fun t => kindT t = "call") n d)) (hk1 : 1 ≤ k) (hkf : kf ≤ k) (hkc : kc ≤ k) :
    FnOk P w K mg base CX0 (k + 1) T.fbody_steps T.dbody_steps ["walk", "body", "scope"] (spBs T.CWalk n d) := by
  have Gstep_steps : FnOk P w K mg base CX0 1 T.fstep_steps T.dstep_steps ["walk", "thing", "scope"] (spSt T.CWalk (fun t => kindT t = "step") n d) := ok_step_steps T n d
  have GWalk_visit : FnOk P w K mg base CX0 1 T.fWalk_visit T.dWalk_visit ["self"] (spVisit T.CWalk) := ok_visit T
  refine T.Fbody_steps.ok (k := k) scbody_steps (fun vs H Q E h => ?_) (fun cdv A outer s H vs Q E hr h => ?_)
  · obtain ⟨o, dx, pd, a, l, Pl, sc, env, v, ts, rfl, _⟩ := h
    rfl
  obtain ⟨o, dx, pd, a, l, Pl, sc, env, v, ts, rfl, hW, hR, hT, hc, hl, q⟩ := h
  refine ⟨_, (pss_cons (ps_set (i := 3) scbody_steps.nd rfl (Or.inl rfl) pe_int)
 (pss_cons (ps_for PassesOwn.never rfl (pi_tup (pv 1)) (pg_name (i := 4) scbody_steps.nd rfl (Or.inl rfl))
  (pss_one (ps_if (pt_cmpR op_ne (pe_ix ix_tup (pv 4) pe_int (fun _ _ => rfl)) pe_str (nomark _))
  (pss_cons (ps_expr (pe_meth0 (pv 0) T.clWalk T.mtWalk_visit GWalk_visit (hr.mono (by omega)) T.bWalk_visit .nil pass0))
 (pss_cons (ps_set (i := 5) scbody_steps.nd rfl (Or.inl rfl) (pe_ix ix_kdict (pe_gc (by rfl) T.cSTEPS) (pe_ix ix_tup (pv 4) pe_int (fun _ _ => rfl)) (fun _ _ => rfl)))
 (pss_one (ps_aug (i := 3) scbody_steps.nd rfl (Or.inl rfl) (pe_alt (pe_callL (i := 5) Gstep_steps (hr.mono (by omega)) rfl (Or.inl rfl) T.Fstep_steps.kp T.bstep_steps .nil pass0 (pa_cons (pv 0) (pa_cons (pv 4) (pa_cons (pv 2) pa_nil)))) (pe_alt (pe_callL (i := 5) Gfor_steps (hr.mono (by omega)) rfl (Or.inl rfl) T.Ffor_steps.kp T.bfor_steps .nil pass0 (pa_cons (pv 0) (pa_cons (pv 4) (pa_cons (pv 2) pa_nil)))) (pe_alt (pe_callL (i := 5) Gif_steps (hr.mono (by omega)) rfl (Or.inl rfl) T.Fif_steps.kp T.bif_steps .nil pass0 (pa_cons (pv 0) (pa_cons (pv 4) (pa_cons (pv 2) pa_nil)))) (pe_alt (pe_callL (i := 5) Gdouble_steps (hr.mono (by omega)) rfl (Or.inl rfl) T.Fdouble_steps.kp T.bdouble_steps .nil pass0 (pa_cons (pv 0) (pa_cons (pv 4) (pa_cons (pv 2) pa_nil)))) (pe_callL (i := 5) Gcall_steps (hr.mono (by omega)) rfl (Or.inl rfl) T.Fcall_steps.kp T.bcall_steps .nil pass0 (pa_cons (pv 0) (pa_cons (pv 4) (pa_cons (pv 2) pa_nil)))))))) ip_add))))
  pss_nil)))
 (pss_one (ps_ret (pv 3))))), ?_⟩
  obtain ⟨ta, vs, rfl, ha, hvs⟩ := id hR
  have hlen := hvs.length
  rw [encs_length] at hlen
  refine ⟨_, rfl, ta, rfl, ⟨_, SqT.of ha⟩, ?_⟩
  refine for_tup (xs := vs) (fun i σ H' => ∃ (tot : Int) (V0 : Nat), (∃ x4 x5, σ = [some (.ref o), some (.ref ta), some (.ref a), some (.int tot), x4, x5]) ∧ tot + (stB (callS Pl d) env (ts.drop i)).1 = (stB (callS Pl d) env ts).1 ∧ V0 + (stB (callS Pl d) env (ts.drop i)).2 = (stB (callS Pl d) env ts).2 ∧ WkAt H' T.CWalk o dx pd (l - V0) ∧ Go (· = o) H H') ⟨0, 0, ⟨_, _, rfl⟩, ?_, ?_, ?_, Go.refl _ H⟩ (fun i σ H' _ hP => ?_) (fun i x σ H2 hx hP => ?_) (fun σ H2 hP => ?_)
  · rw [List.drop_zero]
    omega
  · rw [List.drop_zero]
    omega
  · rw [show l - ((0 : Nat) : Int) = l from Int.sub_zero l]
    exact hW.wk
  · obtain ⟨_, _, _, _, _, _, G⟩ := hP
    exact SqT.of (G.im _ _ ha)
  · obtain ⟨tot, V0, ⟨x4, x5, rfl⟩, ht1, hv1, hW2, G2⟩ := hP
    obtain ⟨t, ht, hRt⟩ := rpl_things hvs hx
    have hRt2 := hRt.to G2.im
    obtain ⟨b, us, rfl, hb⟩ := rp_kind hRt2
    rw [stB_drop ht] at ht1 hv1
    have hTt := (tsok_iff ts).mp hT t (List.mem_of_getElem? ht)
    have hct : cntT t ≤ 1000 := Nat.le_trans (cnt_mem (List.mem_of_getElem? ht)) hc
    cases hag : isAg t with
    | true =>
      rw [if_pos hag] at ht1 hv1
      have hk : kindT t = "again" := by
        cases t with
        | again k w => rfl
        | _ => cases hag
      refine ⟨_, rfl, b, _, 0, _, rfl, rfl, SqT.of hb, atI_nat (j := 0) rfl, rfl, _, rfl, ite2 (fun c => ?_) (fun _ => ⟨tot, V0, ⟨_, _, rfl⟩, ht1, hv1, hW2, G2⟩)⟩
      have c1 : (!decide (V.str (kindT t) = V.str "again")) = true := c
      rw [hk, decide_eq_true rfl] at c1
      cases c1
    | false =>
      rw [if_neg (by rw [hag]; exact Bool.false_ne_true)] at ht1 hv1
      have hk := kind_ag hag
      have hk2 : (!decide (V.str (kindT t) = V.str "again")) = true := by
        rw [decide_eq_false (fun z => hk (V.str.inj z))]
        rfl
      refine ⟨_, rfl, b, _, 0, _, rfl, rfl, SqT.of hb, atI_nat (j := 0) rfl, rfl, _, rfl, ite2 (fun _ => ?_) (fun c => absurd hk2 c)⟩
      dsimp only at ht1 hv1
      refine ⟨_, rfl, o, dx, _, rfl, hW2, rfl, o, dx, pd, _, rfl, hW2, by omega, ?_⟩
      have W3 := wk_set (l - V0 - 1) hW2
      have G3 := G2.trans W3.2
      have hW3 : WIn (upd H2 o (.ins T.CWalk dx (wfs pd (l - V0 - 1)))) T.CWalk o dx pd a (l - V0 - 1) Pl sc env n d := ⟨W3.1, hW.pl.go hW.wk G3, hW.scp.go hW.wk G3, hW.nin, hW.e0, hW.n0, hW.bd⟩
      have hR3 := hRt.to G3.im
      have hb3 := W3.2.im _ _ hb
      have r2 : ((stT (callS Pl d) env t).2 : Int) ≤ l - V0 - 1 := by omega
      have fin : ∀ (f : V) (H5 : Hp), WkAt H5 T.CWalk o dx pd (l - V0 - 1 - (stT (callS Pl d) env t).2) → Go (· = o) (upd H2 o (.ins T.CWalk dx (wfs pd (l - V0 - 1)))) H5 → ∃ (tot2 : Int) (V2 : Nat), (∃ x4 x5, ([some (.ref o), some (.ref ta), some (.ref a), some (.int (tot + (stT (callS Pl d) env t).1)), some (.ref b), some f] : L2.St) = [some (.ref o), some (.ref ta), some (.ref a), some (.int tot2), x4, x5]) ∧ tot2 + (stB (callS Pl d) env (ts.drop (i + 1))).1 = (stB (callS Pl d) env ts).1 ∧ V2 + (stB (callS Pl d) env (ts.drop (i + 1))).2 = (stB (callS Pl d) env ts).2 ∧ WkAt H5 T.CWalk o dx pd (l - V2) ∧ Go (· = o) H H5 := fun f H5 hW5 G5 => by
        refine ⟨_, V0 + (1 + (stT (callS Pl d) env t).2), ⟨_, _, rfl⟩, by omega, by omega, ?_, G3.trans G5⟩
        have e5 : l - ((V0 + (1 + (stT (callS Pl d) env t).2) : Nat) : Int) = l - V0 - 1 - (stT (callS Pl d) env t).2 := by omega
        rw [e5]
        exact hW5
      cases t with
      | step k0 =>
        refine ⟨_, rfl, b, _, 0, _, rfl, rfl, SqT.of hb3, atI_nat (j := 0) rfl, T.aSTEPS, _, _, rfl, rfl, T.kSTEPS_step, ?_⟩
        exact ⟨_, rfl, .inl ⟨rfl, _, rfl, _, rfl, _, rfl, o, dx, pd, a, _, Pl, sc, env, _, _, rfl, rfl, hW3, hR3, hTt, hct, r2, fun H5 hW5 G5 => ⟨_, _, rfl, rfl, fin _ H5 hW5 G5⟩⟩⟩
      | loop x0 e1 e2 c0 =>
        refine ⟨_, rfl, b, _, 0, _, rfl, rfl, SqT.of hb3, atI_nat (j := 0) rfl, T.aSTEPS, _, _, rfl, rfl, T.kSTEPS_for, ?_⟩
        exact ⟨_, rfl, .inr (.inl ⟨rfl, _, rfl, _, rfl, _, rfl, o, dx, pd, a, _, Pl, sc, env, _, _, rfl, rfl, hW3, hR3, hTt, hct, r2, fun H5 hW5 G5 => ⟨_, _, rfl, rfl, fin _ H5 hW5 G5⟩⟩)⟩
      | test e1 e2 c0 c1 =>
        refine ⟨_, rfl, b, _, 0, _, rfl, rfl, SqT.of hb3, atI_nat (j := 0) rfl, T.aSTEPS, _, _, rfl, rfl, T.kSTEPS_if, ?_⟩
        exact ⟨_, rfl, .inr (.inr (.inl ⟨rfl, _, rfl, _, rfl, _, rfl, o, dx, pd, a, _, Pl, sc, env, _, _, rfl, rfl, hW3, hR3, hTt, hct, r2, fun H5 hW5 G5 => ⟨_, _, rfl, rfl, fin _ H5 hW5 G5⟩⟩))⟩
      | twice c0 =>
        refine ⟨_, rfl, b, _, 0, _, rfl, rfl, SqT.of hb3, atI_nat (j := 0) rfl, T.aSTEPS, _, _, rfl, rfl, T.kSTEPS_double, ?_⟩
        exact ⟨_, rfl, .inr (.inr (.inr (.inl ⟨rfl, _, rfl, _, rfl, _, rfl, o, dx, pd, a, _, Pl, sc, env, _, _, rfl, rfl, hW3, hR3, hTt, hct, r2, fun H5 hW5 G5 => ⟨_, _, rfl, rfl, fin _ H5 hW5 G5⟩⟩)))⟩
      | call x0 e1 =>
        refine ⟨_, rfl, b, _, 0, _, rfl, rfl, SqT.of hb3, atI_nat (j := 0) rfl, T.aSTEPS, _, _, rfl, rfl, T.kSTEPS_call, ?_⟩
        exact ⟨_, rfl, .inr (.inr (.inr (.inr ⟨rfl, _, rfl, _, rfl, _, rfl, o, dx, pd, a, _, Pl, sc, env, _, _, rfl, rfl, hW3, hR3, hTt, hct, r2, fun H5 hW5 G5 => ⟨_, _, rfl, rfl, fin _ H5 hW5 G5⟩⟩)))⟩
      | again k0 w0 => cases hag
  · obtain ⟨tot, V0, ⟨x4, x5, rfl⟩, ht1, hv1, hW2, G2⟩ := hP
    rw [hlen, List.drop_length] at ht1 hv1
    have e1 : tot = (stB (callS Pl d) env ts).1 := by
      have : tot + 0 = (stB (callS Pl d) env ts).1 := ht1
      omega
    have e2 : V0 = (stB (callS Pl d) env ts).2 := hv1
    rw [e1]
    rw [e2] at hW2
    exact ⟨_, rfl, q H2 hW2 G2⟩
end
end K08

set_option Elab.async false
set_option linter.all false
set_option maxRecDepth 100000
set_option maxHeartbeats 4000000
namespace K08
open PySem PySem.Spec PyProof.Rows L2 OG
open C8 (pss_cut pe_gc)

section
variable {P : Program} {w : World} {K : PySem.W.Frag} {mg : Str → Option Value} {base : Heap}
theorem ok_plan0 (T : Tops w K mg) : FnOk P w K mg base CX0 1 T.fplan_steps T.dplan_steps ["walk", "name", "size"] (spPs T.CWalk 0) := by
  refine T.Fplan_steps.ok (k := 0) scplan_steps (fun vs H Q E h => ?_) (fun cdv A outer s H vs Q E hr h => ?_)
  · obtain ⟨o, dx, pd, l, Pl, x, s, rfl, _⟩ := h
    rfl
  obtain ⟨o, dx, pd, l, Pl, x, s, rfl, _, _, hk, _⟩ := h
  exact hk.elim
theorem ok_plan_steps (T : Tops w K mg) (d k : Nat) (Gbody_steps : FnOk P w K mg base CX0 k T.fbody_steps T.dbody_steps ["walk", "body", "scope"] (spBs T.CWalk 4 d)) (hk1 : 1 ≤ k) : FnOk P w K mg base CX0 (k + 1) T.fplan_steps T.dplan_steps ["walk", "name", "size"] (spPs T.CWalk (d + 1)) := by
  have Gagain_of : FnOk P w K mg base CX0 1 T.fagain_of T.dagain_of ["plan"] spAgOf := ok_again_of T
  have Glesser_size : FnOk P w K mg base CX0 1 T.flesser_size T.dlesser_size ["size", "word"] spLess := ok_lesser T
  have GWalk_visit : FnOk P w K mg base CX0 1 T.fWalk_visit T.dWalk_visit ["self"] (spVisit T.CWalk) := ok_visit T
  refine T.Fplan_steps.ok (k := k) scplan_steps (fun vs H Q E h => ?_) (fun cdv A outer s H vs Q E hr h => ?_)
  · obtain ⟨o, dx, pd, l, Pl, x, s, rfl, _⟩ := h
    rfl
  obtain ⟨o, dx, pd, l, Pl, x, s, rfl, hW, hP, hk, hs0, hsb, hl, q⟩ := h
  obtain ⟨ts, hPl, hT, hc, hway⟩ := hk
  have eS : callS Pl (d + 1) x s = planS (callS Pl d) ts s := by
    show (match Pl x with | none => (0, 0) | some ts => planS (callS Pl d) ts s) = _
    rw [hPl]
  rw [eS] at hl q
  refine ⟨_, (pss_cons (ps_set (i := 3) scplan_steps.nd rfl (Or.inl rfl) (pe_dget (hu_of hr) (pe_fld (pv 0) rfl) (pv 1) (fun _ _ => rfl)))
 (pss_cons (ps_set (i := 4) scplan_steps.nd rfl (Or.inl rfl) (pe_call Gagain_of (hr.mono (by omega)) (by rfl) T.gagain_of T.Fagain_of.kp T.bagain_of .nil pass0 (pa_cons (pv 3) pa_nil)))
 (pss_cons (ps_set (i := 5) scplan_steps.nd rfl (Or.inl rfl) pe_int)
 (pss_cons (ps_set (i := 6) scplan_steps.nd rfl (Or.inl rfl) pe_int)
 (pss_one (ps_while PassesOwn.never (pt_val pe_bl)
  (pss_cons (ps_aug (i := 5) scplan_steps.nd rfl (Or.inl rfl) (pe_op op_mul (pv 6) (pe_call Gbody_steps (hr.mono (by omega)) (by rfl) T.gbody_steps T.Fbody_steps.kp T.bbody_steps .nil pass0 (pa_cons (pv 0) (pa_cons (pv 3) (pa_cons (pe_disp (pps_cons pe_str pe_int (pps_cons pe_str (pv 2) pps_nil)) (by rfl) (by rfl) (fun z => by cases z) (by decide)) pa_nil))))) ip_add)
 (pss_cons (ps_if (PW.pt (pw_or (pt_cmpR op_isN (pv 4) pe_non (nomark _)) (pw_or1 (pt_cmpR op_eq (pv 2) pe_int (nomark _)))))
  (pss_one (ps_ret (pv 5)))
  pss_nil)
 (pss_cons (ps_expr (pe_meth0 (pv 0) T.clWalk T.mtWalk_visit GWalk_visit (hr.mono (by omega)) T.bWalk_visit .nil pass0))
 (pss_cons (ps_aug (i := 6) scplan_steps.nd rfl (Or.inl rfl) (pe_ix ix_tup (pv 4) pe_int (fun _ _ => rfl)) ip_mul)
 (pss_one (ps_set (i := 2) scplan_steps.nd rfl (Or.inl rfl) (pe_call Glesser_size (hr.mono (by omega)) (by rfl) T.glesser_size T.Flesser_size.kp T.blesser_size .nil pass0 (pa_cons (pv 2) (pa_cons (pe_ix ix_tup (pv 4) pe_int (fun _ _ => rfl)) pa_nil))))))))))))))), ?_⟩
  obtain ⟨kvs, h1, h2⟩ := id hP
  obtain ⟨v, h3, hR⟩ := h2 x ts hPl
  have g := rd_get (k := .inr x) h1
  rw [h3] at g
  refine ⟨_, rfl, o, _, dx, _, _, rfl, hW, T.clWalk, T.naWalk_plans, rfl, _, rfl, pd, _, rfl, g, ?_⟩
  refine ⟨_, rfl, v, ts, rfl, hR, fun u hu => ?_⟩
  unfold planS at hl q
  cases hw : wayOf ts with
  | none =>
    rw [hw] at hl q hu
    have hu2 : u = .non := hu
    subst hu2
    dsimp only at hl q
    refine ⟨fun n σ H' => σ = [some (.ref o), some (.str x), some (.int s), some v, some .non, some (.int 0), some (.int 1)] ∧ H' = H, ⟨0, rfl, rfl⟩, ?_⟩
    rintro n σ H' ⟨rfl, rfl⟩
    refine ⟨true, rfl, iteT ⟨fun _ _ => False, fun _ _ z => z.elim, ?_⟩⟩
    refine ⟨_, rfl, _, rfl, _, rfl, _, rfl, fun p np => ⟨_, rfl, upd_same, [(.inr "", .int 0), (.inr "n", .int s)], rfl, (by show 2 ≤ 15; decide), ?_⟩⟩
    have ss : Same H' (upd (upd H' p (.dK [])) p (.dK (mergeK [] [(.inr "", .int 0), (.inr "n", .int s)]))) := fun b u hb => by
      rw [upd_ne (ne_of_none hb np), upd_ne (ne_of_none hb np)]
      exact hb
    have g0 : Go (· = o) H' _ := Go.same ss
    refine ⟨o, dx, pd, p, l, Pl, ["n"], env0 s, v, ts, rfl, plan_in hW hP g0 (ss _ _ hW) upd_same hs0 (by omega), hR.to g0.im, hT, hc, hl, fun H5 hW5 G5 => ?_⟩
    refine ⟨1, _, rfl, rfl, .inl ⟨by decide, by decide⟩, _, _, rfl, rfl, ?_⟩
    refine ⟨_, rfl, rfl, _, rfl, iteT ⟨_, rfl, ?_⟩⟩
    have e1 : (0 : Int) + 1 * (stB (callS Pl d) (env0 s) ts).1 = (stB (callS Pl d) (env0 s) ts).1 := by omega
    show Q (.int (0 + 1 * (stB (callS Pl d) (env0 s) ts).1)) H5
    rw [e1]
    exact q H5 hW5 (g0.trans G5)
  | some kw =>
    obtain ⟨k0, w0⟩ := kw
    rw [hw] at hl q hu
    obtain ⟨ua, rfl, hua⟩ := hu
    obtain ⟨k1, k9, kl⟩ := hway k0 w0 hw
    dsimp only at hl q
    generalize hF : (fun s => stB (callS Pl d) (env0 s) ts) = F at hl q
    have eF : ∀ z, F z = stB (callS Pl d) (env0 z) ts := fun z => by rw [← hF]
    refine ⟨fun n σ H' => ∃ (sz tot m : Int) (V0 : Nat), sz.toNat ≤ n ∧ 0 ≤ sz ∧ sz ≤ s ∧ σ = [some (.ref o), some (.str x), some (.int sz), some v, some (.ref ua), some (.int tot), some (.int m)] ∧ tot + (agS F k0 w0 n m sz).1 = (agS F k0 w0 s.toNat 1 s).1 ∧ V0 + (agS F k0 w0 n m sz).2 = (agS F k0 w0 s.toNat 1 s).2 ∧ WkAt H' T.CWalk o dx pd (l - V0) ∧ Go (· = o) H H' ∧ TmOk m sz s w0, ⟨s.toNat, s, 0, 1, 0, Nat.le_refl _, hs0, Int.le_refl _, rfl, by omega, by omega, ?_, Go.refl _ H, ?_⟩, ?_⟩
    · rw [show l - ((0 : Nat) : Int) = l from Int.sub_zero l]
      exact hW
    · by_cases e : w0 = "less"
      · exact .inl ⟨e, rfl⟩
      · exact .inr ⟨e, 0, by decide, by decide, by decide, fun _ => by rw [Int.pow_zero, Int.mul_one]; exact Int.le_refl _⟩
    rintro n σ H2 ⟨sz, tot, m, V0, hf, z0, zs, rfl, ht, hv, hW2, G2, hm⟩
    have hle : V0 + (F sz).2 ≤ (agS F k0 w0 s.toNat 1 s).2 := by
      rw [← hv]
      cases n with
      | zero => exact Nat.le_refl _
      | succ n =>
        show V0 + (F sz).2 ≤ V0 + (if sz = 0 then (m * (F sz).1, (F sz).2) else _ : Int × Nat).2
        split <;> (dsimp only; omega)
    refine ⟨true, rfl, iteT ⟨fun σ' H' => ∃ n', n' < n ∧ ∃ (sz tot m : Int) (V0 : Nat), sz.toNat ≤ n' ∧ 0 ≤ sz ∧ sz ≤ s ∧ σ' = [some (.ref o), some (.str x), some (.int sz), some v, some (.ref ua), some (.int tot), some (.int m)] ∧ tot + (agS F k0 w0 n' m sz).1 = (agS F k0 w0 s.toNat 1 s).1 ∧ V0 + (agS F k0 w0 n' m sz).2 = (agS F k0 w0 s.toNat 1 s).2 ∧ WkAt H' T.CWalk o dx pd (l - V0) ∧ Go (· = o) H H' ∧ TmOk m sz s w0, fun _ _ z => z, ?_⟩⟩
    refine ⟨_, rfl, _, rfl, _, rfl, _, rfl, fun p np => ⟨_, rfl, upd_same, [(.inr "", .int 0), (.inr "n", .int sz)], rfl, (by show 2 ≤ 15; decide), ?_⟩⟩
    have ss : Same H2 (upd (upd H2 p (.dK [])) p (.dK (mergeK [] [(.inr "", .int 0), (.inr "n", .int sz)]))) := fun b u hb => by
      rw [upd_ne (ne_of_none hb np), upd_ne (ne_of_none hb np)]
      exact hb
    have G3 : Go (· = o) H _ := G2.trans (Go.same ss)
    refine ⟨o, dx, pd, p, l - V0, Pl, ["n"], env0 sz, v, ts, rfl, plan_in hW hP G3 (ss _ _ hW2) upd_same z0 (by omega), hR.to G3.im, hT, hc, ?_, fun H5 hW5 G5 => ?_⟩
    · rw [← eF]
      omega
    rw [← eF] at hW5 ⊢
    have G6 := G3.trans G5
    refine ⟨m, _, rfl, rfl, .inl hm.lt, _, _, rfl, rfl, ?_⟩
    refine ⟨_, rfl, rfl, _, rfl, ite2 (fun z => by cases z) (fun _ => ?_)⟩
    refine ⟨_, rfl, rfl, _, rfl, ite2 (fun c => ?_) (fun c => ?_)⟩
    · have e0 : sz = 0 := V.int.inj (of_decide_eq_true c)
      have ea : agS F k0 w0 n m sz = (m * (F sz).1, (F sz).2) := by
        cases n with
        | zero => rfl
        | succ n => exact if_pos e0
      rw [ea] at ht hv
      dsimp only at ht hv
      refine ⟨_, rfl, ?_⟩
      show Q (.int (tot + m * (F sz).1)) H5
      rw [ht]
      refine q H5 ?_ G6
      have e6 : l - ((agS F k0 w0 s.toNat 1 s).2 : Int) = l - V0 - (F sz).2 := by
        rw [← hv]
        omega
      rw [e6]
      exact hW5
    · have n0 : sz ≠ 0 := fun z => c (by rw [z]; rfl)
      have pos : 0 < sz := by omega
      cases n with
      | zero => omega
      | succ n =>
        have ea : agS F k0 w0 (n + 1) m sz = (m * (F sz).1 + (agS F k0 w0 n (m * k0) (less sz w0)).1, (F sz).2 + (1 + (agS F k0 w0 n (m * k0) (less sz w0)).2)) := if_neg n0
        rw [ea] at ht hv
        dsimp only at ht hv
        have ls := less_lt (w := w0) pos
        refine ⟨_, rfl, o, dx, _, rfl, hW5, rfl, o, dx, pd, _, rfl, hW5, by omega, ?_⟩
        have W7 := wk_set (l - V0 - (F sz).2 - 1) hW5
        have G7 := G6.trans W7.2
        have hua7 := G7.im _ _ hua
        refine ⟨_, rfl, _, rfl, ua, _, 1, _, rfl, rfl, SqT.of hua7, atI_nat (j := 1) rfl, m, k0, rfl, rfl, .inl hm.lt, ?_⟩
        refine ⟨_, rfl, _, rfl, ua, _, 2, _, rfl, rfl, SqT.of hua7, atI_nat (j := 2) rfl, sz, w0, rfl, ?_⟩
        refine ⟨n, by omega, less sz w0, tot + m * (F sz).1, m * k0, V0 + ((F sz).2 + 1), by omega, ls.1, by omega, rfl, by omega, by omega, ?_, G7, hm.next pos (by omega) k1 k9 kl⟩
        have e7 : l - ((V0 + ((F sz).2 + 1) : Nat) : Int) = l - V0 - (F sz).2 - 1 := by omega
        rw [e7]
        exact W7.1
end
end K08

set_option Elab.async false
set_option linter.all false
set_option maxRecDepth 100000
set_option maxHeartbeats 4000000
namespace K08
open PySem PySem.Spec PyProof.Rows L2 OG
open C8 (pss_cut pe_gc)

section
variable {P : Program} {w : World} {K : PySem.W.Frag} {mg : Str → Option Value} {base : Heap}
theorem ok_for_steps0 (T : Tops w K mg) (d : Nat) : FnOk P w K mg base CX0 1 T.ffor_steps T.dfor_steps ["walk", "thing", "scope"] (spSt T.CWalk (fun t => kindT t = "for") 0 d) := by
  refine T.Ffor_steps.ok (k := 0) scfor_steps (fun vs H Q E h => ?_) (fun cdv A outer s H vs Q E hr h => ?_)
  · obtain ⟨o, dx, pd, a, l, Pl, sc, env, v, t, rfl, _⟩ := h
    rfl
  obtain ⟨o, dx, pd, a, l, Pl, sc, env, v, t, rfl, hk, _, _, hT, _⟩ := h
  obtain ⟨x, e, f, b, rfl⟩ := kind_for hk
  obtain ⟨_, _, _, _, _, m, em, _⟩ := hT
  omega
theorem ok_if_steps0 (T : Tops w K mg) (d : Nat) : FnOk P w K mg base CX0 1 T.fif_steps T.dif_steps ["walk", "thing", "scope"] (spSt T.CWalk (fun t => kindT t = "if") 0 d) := by
  refine T.Fif_steps.ok (k := 0) scif_steps (fun vs H Q E h => ?_) (fun cdv A outer s H vs Q E hr h => ?_)
  · obtain ⟨o, dx, pd, a, l, Pl, sc, env, v, t, rfl, _⟩ := h
    rfl
  obtain ⟨o, dx, pd, a, l, Pl, sc, env, v, t, rfl, hk, _, _, hT, _⟩ := h
  obtain ⟨e, f, b, b2, rfl⟩ := kind_if hk
  obtain ⟨_, _, _, m, em, _⟩ := hT
  omega
theorem ok_double_steps0 (T : Tops w K mg) (d : Nat) : FnOk P w K mg base CX0 1 T.fdouble_steps T.ddouble_steps ["walk", "thing", "scope"] (spSt T.CWalk (fun t => kindT t = "double") 0 d) := by
  refine T.Fdouble_steps.ok (k := 0) scdouble_steps (fun vs H Q E h => ?_) (fun cdv A outer s H vs Q E hr h => ?_)
  · obtain ⟨o, dx, pd, a, l, Pl, sc, env, v, t, rfl, _⟩ := h
    rfl
  obtain ⟨o, dx, pd, a, l, Pl, sc, env, v, t, rfl, hk, _, _, hT, _⟩ := h
  obtain ⟨b, rfl⟩ := kind_double hk
  obtain ⟨_, m, em, _⟩ := hT
  omega
/-- all of the walk: n brackets, d calls deep -/
theorem ok_body_all (T : Tops w K mg) (d k : Nat) (Gp : FnOk P w K mg base CX0 k T.fplan_steps T.dplan_steps ["walk", "name", "size"] (spPs T.CWalk d)) (hk : 1 ≤ k) : ∀ n : Nat, FnOk P w K mg base CX0 (k + 2 + 2 * n) T.fbody_steps T.dbody_steps ["walk", "body", "scope"] (spBs T.CWalk n d)
  | 0 => ok_body_steps T 0 d (k + 1) 1 (k + 1) (ok_for_steps0 T d) (ok_if_steps0 T d) (ok_double_steps0 T d) (ok_call_steps T 0 d k Gp hk) (by omega) (by omega) (by omega)
  | n + 1 => ok_body_steps T (n + 1) d (k + 2 + 2 * n + 1) (k + 2 + 2 * n + 1) (k + 1) (ok_for_steps T n d _ (ok_body_all T d k Gp hk n) (by omega)) (ok_if_steps T n d _ (ok_body_all T d k Gp hk n) (by omega)) (ok_double_steps T n d _ (ok_body_all T d k Gp hk n) (by omega)) (ok_call_steps T (n + 1) d k Gp hk) (by omega) (by omega) (by omega)
theorem ok_plan_all (T : Tops w K mg) : ∀ d : Nat, FnOk P w K mg base CX0 (1 + 11 * d) T.fplan_steps T.dplan_steps ["walk", "name", "size"] (spPs T.CWalk d)
  | 0 => ok_plan0 T
  | d + 1 => ok_plan_steps T d (1 + 11 * d + 10) (ok_body_all T d _ (ok_plan_all T d) (by omega) 4) (by omega)
def spWinit (CW : Addr) : Sp := fun vs H Q _ => ∃ (o dx pd : Addr) (l : Int), vs = [.ref o, .ref pd, .int l] ∧ H o = some (.ins CW dx []) ∧ ∀ H', WkAt H' CW o dx pd l → Go (· = o) H H' → Q .non H'
theorem ok_winit (T : Tops w K mg) : FnOk P w K mg base CX0 1 T.fWalk___init__ T.dWalk___init__ ["self", "plans", "most"] (spWinit T.CWalk) := by
  refine T.FWalk___init__.ok (k := 0) scWalk___init__ (fun vs H Q E h => ?_) (fun cdv A outer s H vs Q E hr h => ?_)
  · obtain ⟨o, dx, pd, l, rfl, _⟩ := h
    rfl
  obtain ⟨o, dx, pd, l, rfl, ho, q⟩ := h
  refine ⟨_, (pss_cons (ps_fld (pv 0) (pv 1) rfl)
 (pss_one (ps_fld (pv 0) (pv 2) rfl))), ?_⟩
  have g1 : Go (· = o) H (upd H o (.ins T.CWalk dx [("plans", .ref pd)])) := ⟨(Sx.refl _ H).upd_in rfl, (Imm.refl H).upd fun xs e => by rw [ho] at e; cases e⟩
  have g2 : Go (· = o) H (upd (upd H o (.ins T.CWalk dx [("plans", .ref pd)])) o (.ins T.CWalk dx (wfs pd l))) := g1.trans ⟨(Sx.refl _ _).upd_in rfl, (Imm.refl _).upd fun xs e => by rw [upd_same] at e; cases e⟩
  exact ⟨_, rfl, _, rfl, o, _, dx, _, rfl, ho, T.clWalk, T.naWalk_plans, by decide, _, rfl, _, rfl, o, _, dx, _, rfl, upd_same, T.clWalk, T.naWalk_left, (by show 1 < 1000; decide), q _ (upd_same : (upd (upd H o (.ins T.CWalk dx [("plans", .ref pd)])) o (.ins T.CWalk dx (wfs pd l))) o = _) g2⟩
end
end K08

set_option Elab.async false
set_option linter.all false
set_option maxRecDepth 100000
set_option maxHeartbeats 4000000
namespace K08
open PySem PySem.Spec PyProof.Rows L2 OG
open C8 (pss_cut pe_gc)

section
variable {P : Program} {w : World} {K : PySem.W.Frag} {mg : Str → Option Value} {base : Heap}
def spWalked (d : Nat) : Sp := fun vs H Q _ => ∃ (pd : Addr) (Pl : Pls) (x : Str) (s m : Int), vs = [.ref pd, .str x, .int s, .int m] ∧ PlAt H pd Pl ∧ Rk Pl d x ∧ 0 ≤ s ∧ s + 1000 * d ≤ 66136 ∧ ((callS Pl d x s).2 : Int) ≤ m ∧ ∀ H', Same H H' → Q (.int (callS Pl d x s).1) H'
theorem ok_walked (T : Tops w K mg) (d : Nat) : FnOk P w K mg base CX0 (3 + 11 * d) T.fwalked T.dwalked ["plans", "name", "size", "most"] (spWalked d) := by
  have Gplan_steps : FnOk P w K mg base CX0 (1 + 11 * d) T.fplan_steps T.dplan_steps ["walk", "name", "size"] (spPs T.CWalk d) := ok_plan_all T d
  have GWalk___init__ : FnOk P w K mg base CX0 1 T.fWalk___init__ T.dWalk___init__ ["self", "plans", "most"] (spWinit T.CWalk) := ok_winit T
  have e2 : 3 + 11 * d = 2 + 11 * d + 1 := by omega
  rw [e2]
  refine T.Fwalked.ok (k := 2 + 11 * d) scwalked (fun vs H Q E h => ?_) (fun cdv A outer s H vs Q E hr h => ?_)
  · obtain ⟨pd, Pl, x, s, m, rfl, _⟩ := h
    rfl
  obtain ⟨pd, Pl, x, s, m, rfl, hP, hk, hs, hb, hm, q⟩ := h
  refine ⟨_, (pss_one (ps_ret (pe_call Gplan_steps (hr.mono (by omega)) (by rfl) T.gplan_steps T.Fplan_steps.kp T.bplan_steps .nil pass0 (pa_cons (pe_make T.mkWalk GWalk___init__ (hr.mono (by omega)) (by rfl) T.gWalk T.bWalk___init__ .nil pass0 (pa_cons (pv 0) (pa_cons (pv 3) pa_nil))) (pa_cons (pv 1) (pa_cons (pv 2) pa_nil)))))), ?_⟩
  refine ⟨_, rfl, _, rfl, fun o dx no ndx nod => ?_⟩
  have s0 : Same H (upd (upd H dx (.own o)) o (.ins T.CWalk dx [])) := fun b u e => by
    rw [upd_ne (ne_of_none e no), upd_ne (ne_of_none e ndx)]
    exact e
  refine ⟨o, dx, pd, m, rfl, upd_same, fun H1 hW1 G1 => ⟨rfl, ?_⟩⟩
  have keep : ∀ {H' : Hp}, Go (· = o) (upd (upd H dx (.own o)) o (.ins T.CWalk dx [])) H' → Same H H' := fun {H'} g b u hb => g.sx b u (ne_of_none hb no) (s0 b u hb)
  have hP1 : PlAt H1 pd Pl := by
    obtain ⟨kvs, p1, p2⟩ := hP
    refine ⟨kvs, rd_same p1 (keep G1), fun y ts hy => ?_⟩
    obtain ⟨v, p3, p4⟩ := p2 y ts hy
    exact ⟨v, p3, p4.to (Imm.same (keep G1))⟩
  exact ⟨_, rfl, _, rfl, o, dx, pd, m, Pl, x, s, rfl, hW1, hP1, hk, hs, hb, hm, fun H2 _ G2 => q H2 (keep (G1.trans G2))⟩
end
end K08

set_option Elab.async false
set_option linter.all false
set_option maxRecDepth 100000
set_option maxHeartbeats 4000000
namespace K08
open PySem PySem.Spec PyProof.Rows L2 OG
open C8 (pss_cut pe_gc)

section
variable {P : Program} {w : World} {K : PySem.W.Frag} {mg : Str → Option Value} {base : Heap}
theorem ok_comes (T : Tops w K mg) : FnOk P w K mg base CX0 1 T.fl_comes T.dl_comes ["_law_end", "_law_names"] spComes := by
  refine T.Fl_comes.ok (k := 0) scl_comes (fun vs H Q E h => ?_) (fun cdv A outer s H vs Q E hr h => ?_)
  · obtain ⟨v, a, e, sc, env, m, rfl, _⟩ := h
    rfl
  obtain ⟨v, a, e, sc, env, m, rfl, hR, ⟨kvs, h1, h2, h3⟩, h0, he, q⟩ := h
  refine ⟨_, (pss_one (ps_ret (pe_ifExp (pt_cmpR op_eq (pe_ix ix_tup (pv 0) pe_int (fun _ _ => rfl)) pe_str (nomark _)) (pe_ix ix_tup (pv 0) pe_int (fun _ _ => rfl)) (pe_op op_add (pe_dget (hu_of hr) (pv 1) (pe_ix ix_tup (pv 0) pe_int (fun _ _ => rfl)) (fun _ _ => rfl)) (pe_ix ix_tup (pv 0) pe_int (fun _ _ => rfl)))))), ?_⟩
  obtain ⟨b, v1, v2, rfl, hb, rfl, rfl⟩ := rp_t2 hR
  refine ⟨_, rfl, b, _, 0, _, rfl, rfl, SqT.of hb, atI_nat (j := 0) rfl, rfl, _, rfl, ite2 (fun c => ?_) (fun c => ?_)⟩
  · have e1 : e.1 = "" := V.str.inj (of_decide_eq_true c)
    refine ⟨_, rfl, b, _, 1, _, rfl, rfl, SqT.of hb, atI_nat (j := 1) rfl, ?_⟩
    have e2 : endV env e = e.2 := by
      unfold endV
      rw [e1, h0]
      omega
    rw [e2] at q
    exact q
  · have hin : e.1 ∈ sc := he.elim (fun z => absurd (show decide (V.str e.1 = V.str "") = true by rw [z.1]; rfl) c) (fun z => z.1)
    have g := DGet.k (k := .inr e.1) h1
    rw [h3 e.1 hin] at g
    exact ⟨_, rfl, _, rfl, b, _, 0, _, rfl, rfl, SqT.of hb, atI_nat (j := 0) rfl, a, _, rfl, g, _, rfl, b, _, 1, _, rfl, rfl, SqT.of hb, atI_nat (j := 1) rfl, _, _, rfl, rfl, q⟩
theorem ok_l_body (T : Tops w K mg) (n d k : Nat) (Gl_walk_thing : FnOk P w K mg base CX0 k T.fl_walk_thing T.dl_walk_thing ["_law_plans", "_law_thing", "_law_names", "_law_left"] (spLSt n d)) :
    FnOk P w K mg base CX0 (k + 1) T.fl_walk_body T.dl_walk_body ["_law_plans", "_law_body", "_law_names", "_law_left"] (spLBs n d) := by
  refine T.Fl_walk_body.ok (k := k) scl_walk_body (fun vs H Q E h => ?_) (fun cdv A outer s H vs Q E hr h => ?_)
  · obtain ⟨pd, a, L, l, Pl, sc, env, v, ts, rfl, _⟩ := h
    rfl
  obtain ⟨pd, a, L, l, Pl, sc, env, v, ts, rfl, hI, hR, hT, hc, q⟩ := h
  refine ⟨_, (pss_cons (ps_set (i := 4) scl_walk_body.nd rfl (Or.inl rfl) pe_int)
 (pss_cons (ps_for PassesOwn.never rfl (pi_tup (pv 1)) (pg_name (i := 5) scl_walk_body.nd rfl (Or.inl rfl))
  (pss_one (ps_if (PW.pt (pw_and (pt_cmpR op_ne (pe_ix ix_tup (pv 5) pe_int (fun _ _ => rfl)) pe_str (nomark _)) (pw_and1 (pt_cmpR op_ge (pe_ix ix_list (pv 3) pe_int (fun _ _ => rfl)) pe_int (nomark _)))))
  (pss_cons (ps_asg (pe_op op_sub (pe_ix ix_list (pv 3) pe_int (fun _ _ => rfl)) pe_int) (pg_sub (pv 3) pe_int set_list))
 (pss_one (ps_set (i := 4) scl_walk_body.nd rfl (Or.inl rfl) (pe_op op_add (pv 4) (pe_call Gl_walk_thing (hr.mono (by omega)) (by rfl) T.gl_walk_thing T.Fl_walk_thing.kp T.bl_walk_thing .nil pass0 (pa_cons (pv 0) (pa_cons (pv 5) (pa_cons (pv 2) (pa_cons (pv 3) pa_nil)))))))))
  pss_nil)))
 (pss_one (ps_ret (pv 4))))), ?_⟩
  obtain ⟨ta, vs, rfl, ha, hvs⟩ := id hR
  have hlen := hvs.length
  rw [encs_length] at hlen
  refine ⟨_, rfl, ta, rfl, ⟨_, SqT.of ha⟩, ?_⟩
  refine for_tup (xs := vs) (fun i σ H' => ∃ (tot ni : Int), (∃ x5, σ = [some (.ref pd), some (.ref ta), some (.ref a), some (.ref L), some (.int tot), x5]) ∧ (0 ≤ ni → ∃ V0 : Nat, ni = l - V0 ∧ tot + (stB (callS Pl d) env (ts.drop i)).1 = (stB (callS Pl d) env ts).1 ∧ V0 + (stB (callS Pl d) env (ts.drop i)).2 = (stB (callS Pl d) env ts).2) ∧ LfAt H' L ni ∧ Go (· = L) H H') ⟨0, l, ⟨_, rfl⟩, fun _ => ⟨0, by omega, by rw [List.drop_zero]; omega, by rw [List.drop_zero]; omega⟩, hI.lf, Go.refl _ H⟩ (fun i σ H' _ hP => ?_) (fun i x σ H2 hx hP => ?_) (fun σ H2 hP => ?_)
  · obtain ⟨_, _, _, _, _, G⟩ := hP
    exact SqT.of (G.im _ _ ha)
  · obtain ⟨tot, ni, ⟨x5, rfl⟩, hn, hL2, G2⟩ := hP
    obtain ⟨t, ht, hRt⟩ := rpl_things hvs hx
    have hRt2 := hRt.to G2.im
    obtain ⟨b, us, rfl, hb⟩ := rp_kind hRt2
    rw [stB_drop ht] at hn
    have hTt := (tsok_iff ts).mp hT t (List.mem_of_getElem? ht)
    have hct : cntT t ≤ 1000 := Nat.le_trans (cnt_mem (List.mem_of_getElem? ht)) hc
    cases hag : isAg t with
    | true =>
      rw [if_pos hag] at hn
      have hk : kindT t = "again" := by
        cases t with
        | again k w => rfl
        | _ => cases hag
      refine ⟨_, rfl, b, _, 0, _, rfl, rfl, SqT.of hb, atI_nat (j := 0) rfl, rfl, _, rfl, ite2 (fun c => ?_) (fun _ => ⟨tot, ni, ⟨_, rfl⟩, hn, hL2, G2⟩)⟩
      have c1 : (!decide (V.str (kindT t) = V.str "again")) = true := c
      rw [hk, decide_eq_true rfl] at c1
      cases c1
    | false =>
      rw [if_neg (by rw [hag]; exact Bool.false_ne_true)] at hn
      have hk := kind_ag hag
      have hk2 : (!decide (V.str (kindT t) = V.str "again")) = true := by
        rw [decide_eq_false (fun z => hk (V.str.inj z))]
        rfl
      refine ⟨_, rfl, b, _, 0, _, rfl, rfl, SqT.of hb, atI_nat (j := 0) rfl, rfl, _, rfl, ite2 (fun _ => ?_) (fun c => absurd hk2 c)⟩
      refine ⟨_, rfl, L, _, 0, _, rfl, rfl, SqL.of hL2, atI_nat (j := 0) rfl, ni, 0, rfl, rfl, _, rfl, ite2 (fun c => ?_) (fun c => ?_)⟩
      · have n0 : 0 ≤ ni := of_decide_eq_true c
        obtain ⟨V0, e1, e2, e3⟩ := hn n0
        dsimp only at e2 e3
        refine ⟨_, rfl, L, _, 0, _, rfl, rfl, SqL.of hL2, atI_nat (j := 0) rfl, ni, 1, rfl, rfl, _, rfl, L, _, 0, 0, rfl, rfl, hL2, rfl, ?_⟩
        have L3 := lf_set (ni - 1) hL2
        have G3 := G2.trans L3.2
        refine ⟨_, rfl, _, rfl, _, rfl, _, rfl, _, rfl, pd, a, L, ni - 1, Pl, sc, env, _, t, rfl, hag, hI.go G3 L3.1, hRt.to G3.im, hTt, hct, fun v1 l1 H4 h4 hL4 G4 => ?_⟩
        refine ⟨_, _, rfl, rfl, tot + v1, l1, ⟨_, rfl⟩, fun z => ?_, hL4, G3.trans G4⟩
        obtain ⟨rfl, e5⟩ := h4 z
        exact ⟨V0 + (1 + (stT (callS Pl d) env t).2), by omega, by omega, by omega⟩
      · have n0 : ¬ 0 ≤ ni := of_decide_eq_false (Bool.eq_false_iff.mpr c)
        exact ⟨tot, ni, ⟨_, rfl⟩, fun z => absurd z n0, hL2, G2⟩
  · obtain ⟨tot, ni, ⟨x5, rfl⟩, hn, hL2, G2⟩ := hP
    rw [hlen, List.drop_length] at hn
    refine ⟨_, rfl, q tot ni H2 (fun z => ?_) hL2 G2⟩
    obtain ⟨V0, e1, e2, e3⟩ := hn z
    have e4 : tot + 0 = (stB (callS Pl d) env ts).1 := e2
    have e5 : V0 = (stB (callS Pl d) env ts).2 := e3
    exact ⟨by omega, by omega⟩
end
end K08

set_option Elab.async false
set_option linter.all false
set_option maxRecDepth 100000
set_option maxHeartbeats 4000000
namespace K08
open PySem PySem.Spec PyProof.Rows L2 OG
open C8 (pss_cut pe_gc)

section
variable {P : Program} {w : World} {K : PySem.W.Frag} {mg : Str → Option Value} {base : Heap}
def prevL (d : Nat) : Nat → Sp
  | 0 => fun _ _ _ _ => False
  | m + 1 => spLBs m d
theorem sc_setL {H' : Hp} {p : Addr} {sc : List Str} {env : Str → Int} {m : Nat} {x : Str} {i : Int} {kvs : List (Key × V)} (hl : kvs.length + (m + 1) ≤ 100) (h : ∀ y ∈ sc, valV kvs (.inr y) = some (.int (env y))) (hp : H' p = some (.dK (putK kvs (.inr x) (.int i)))) : ScAt H' p (sc ++ [x]) (setE env x i) m := by
  refine ⟨_, hp, by have := length_putK kvs (.inr x) (V.int i); omega, fun y hy => ?_⟩
  rw [valV_put]
  unfold setE
  by_cases e : y = x
  · rw [e, if_pos rfl, if_pos rfl]
  · rw [if_neg (fun z => e (Sum.inr.inj z)), if_neg e]
    rcases List.mem_append.mp hy with h2 | h2
    · exact h _ h2
    · exact absurd (List.mem_singleton.mp h2) e
theorem ok_l_thing (T : Tops w K mg) (n d k kw kb : Nat) (Gl_walk : FnOk P w K mg base CX0 kw T.fl_walk T.dl_walk ["_law_plans", "_law_name", "_law_size", "_law_left"] (spLPs d)) (Gl_walk_body : FnOk P w K mg base CX0 kb T.fl_walk_body T.dl_walk_body ["_law_plans", "_law_body", "_law_names", "_law_left"] (prevL d n)) (h1 : 1 ≤ k) (h2 : kw ≤ k) (h3 : kb ≤ k) :
    FnOk P w K mg base CX0 (k + 1) T.fl_walk_thing T.dl_walk_thing ["_law_plans", "_law_thing", "_law_names", "_law_left"] (spLSt n d) := by
  have Gl_comes : FnOk P w K mg base CX0 1 T.fl_comes T.dl_comes ["_law_end", "_law_names"] spComes := ok_comes T
  refine T.Fl_walk_thing.ok (k := k) scl_walk_thing (fun vs H Q E h => ?_) (fun cdv A outer s H vs Q E hr h => ?_)
  · obtain ⟨pd, a, L, l, Pl, sc, env, v, t, rfl, _⟩ := h
    rfl
  obtain ⟨pd, a, L, l, Pl, sc, env, v, t, rfl, hag, hI, hR, hT, hc, q⟩ := h
  refine ⟨_, (pss_cons (ps_set (i := 4) scl_walk_thing.nd rfl (Or.inl rfl) (pe_ix ix_tup (pv 1) pe_int (fun _ _ => rfl)))
 (pss_cons (ps_if (pt_cmpR op_eq (pv 4) pe_str (nomark _))
  (pss_one (ps_ret (pe_ix ix_tup (pv 1) pe_int (fun _ _ => rfl))))
  pss_nil)
 (pss_cons (ps_if (pt_cmpR op_eq (pv 4) pe_str (nomark _))
  (pss_one (ps_ret (pe_call Gl_walk (hr.mono (by omega)) (by rfl) T.gl_walk T.Fl_walk.kp T.bl_walk .nil pass0 (pa_cons (pv 0) (pa_cons (pe_ix ix_tup (pv 1) pe_int (fun _ _ => rfl)) (pa_cons (pe_callB (call_max2 rfl) (by rfl) T.mmax (by decide +kernel) (pa_cons pe_int (pa_cons (pe_call Gl_comes (hr.mono (by omega)) (by rfl) T.gl_comes T.Fl_comes.kp T.bl_comes .nil pass0 (pa_cons (pe_ix ix_tup (pv 1) pe_int (fun _ _ => rfl)) (pa_cons (pv 2) pa_nil))) pa_nil))) (pa_cons (pv 3) pa_nil)))))))
  pss_nil)
 (pss_cons (ps_if (pt_cmpR op_eq (pv 4) pe_str (nomark _))
  (pss_one (ps_ret (pe_call Gl_walk_body (hr.mono (by omega)) (by rfl) T.gl_walk_body T.Fl_walk_body.kp T.bl_walk_body .nil pass0 (pa_cons (pv 0) (pa_cons (pe_ix ix_tup (pv 1) (pe_op op_add pe_int (pe_callTy call_int1 (by rfl) T.mint (by decide +kernel) (pa_cons (pe_cmpR op_gt (pe_call Gl_comes (hr.mono (by omega)) (by rfl) T.gl_comes T.Fl_comes.kp T.bl_comes .nil pass0 (pa_cons (pe_ix ix_tup (pv 1) pe_int (fun _ _ => rfl)) (pa_cons (pv 2) pa_nil))) (pe_call Gl_comes (hr.mono (by omega)) (by rfl) T.gl_comes T.Fl_comes.kp T.bl_comes .nil pass0 (pa_cons (pe_ix ix_tup (pv 1) pe_int (fun _ _ => rfl)) (pa_cons (pv 2) pa_nil))) (nomark _)) pa_nil))) (fun _ _ => rfl)) (pa_cons (pv 2) (pa_cons (pv 3) pa_nil)))))))
  pss_nil)
 (pss_cons (ps_set (i := 5) scl_walk_thing.nd rfl (Or.inl rfl) pe_int)
 (pss_cons (ps_asg (pe_ifExp (pt_cmpR op_eq (pv 4) pe_str (nomark _)) (pe_tup (pa_cons pe_int (pa_cons (pe_bits (pe_dget (hu_of hr) (pv 2) pe_str (fun _ _ => rfl))) pa_nil))) (pe_tup (pa_cons (pe_call Gl_comes (hr.mono (by omega)) (by rfl) T.gl_comes T.Fl_comes.kp T.bl_comes .nil pass0 (pa_cons (pe_ix ix_tup (pv 1) pe_int (fun _ _ => rfl)) (pa_cons (pv 2) pa_nil))) (pa_cons (pe_call Gl_comes (hr.mono (by omega)) (by rfl) T.gl_comes T.Fl_comes.kp T.bl_comes .nil pass0 (pa_cons (pe_ix ix_tup (pv 1) pe_int (fun _ _ => rfl)) (pa_cons (pv 2) pa_nil))) pa_nil)))) (pg_tup rfl (pgs_cons (pg_name (i := 7) scl_walk_thing.nd rfl (Or.inl rfl)) (pgs_cons (pg_name (i := 8) scl_walk_thing.nd rfl (Or.inl rfl)) pgs_nil))))
 (pss_cons (ps_for PassesOwn.never rfl (pi_range2 (by rfl) T.mrange (pa_cons (pv 7) (pa_cons (pe_op op_add (pv 8) pe_int) pa_nil))) (pg_name (i := 6) scl_walk_thing.nd rfl (Or.inl rfl))
  (pss_cons (ps_if (pt_cmpR op_lt (pe_ix ix_list (pv 3) pe_int (fun _ _ => rfl)) pe_int (nomark _))
  (pss_one (ps_ret (pv 5)))
  pss_nil)
 (pss_cons (ps_asg (pe_op op_sub (pe_ix ix_list (pv 3) pe_int (fun _ _ => rfl)) pe_int) (pg_sub (pv 3) pe_int set_list))
 (pss_cons (ps_set (i := 9) scl_walk_thing.nd rfl (Or.inl rfl) (pe_callTy call_dictD (by rfl) T.mdict (by decide +kernel) (pa_cons (pv 2) pa_nil)))
 (pss_cons (ps_if (pt_cmpR op_eq (pv 4) pe_str (nomark _))
  (pss_one (ps_dput (hu_of hr) (pv 9) (pe_ix ix_tup (pv 1) pe_int (fun _ _ => rfl)) (pv 6) rfl))
  pss_nil)
 (pss_one (ps_set (i := 5) scl_walk_thing.nd rfl (Or.inl rfl) (pe_op op_add (pv 5) (pe_call Gl_walk_body (hr.mono (by omega)) (by rfl) T.gl_walk_body T.Fl_walk_body.kp T.bl_walk_body .nil pass0 (pa_cons (pv 0) (pa_cons (pe_ix ix_tup (pv 1) (pe_un un_neg pe_int) (fun _ _ => rfl)) (pa_cons (pv 9) (pa_cons (pv 3) pa_nil)))))))))))))
 (pss_one (ps_ret (pv 5)))))))))), ?_⟩
  obtain ⟨B, b1, b2, b3⟩ := hI.bd
  cases t with
  | again k0 w0 => cases hag
  | step k0 =>
    obtain ⟨ta, v1, v2, rfl, ha, rfl, rfl⟩ := rp_t2 hR
    refine ⟨_, rfl, ta, _, 0, _, rfl, rfl, SqT.of ha, atI_nat (j := 0) rfl, ?_⟩
    refine ⟨_, rfl, rfl, _, rfl, iteT ?_⟩
    refine ⟨_, rfl, ta, _, 1, _, rfl, rfl, SqT.of ha, atI_nat (j := 1) rfl, ?_⟩
    exact q k0 l H (fun _ => ⟨rfl, (Int.sub_zero l).symm⟩) hI.lf (Go.refl _ H)
  | call x e =>
    obtain ⟨ta, v1, v2, v3, rfl, ha, rfl, rfl, h4⟩ := rp_t3 hR
    obtain ⟨hx, hC, he⟩ := hT
    have eb := end_bd he b1 hI.e0 b2
    refine ⟨_, rfl, ta, _, 0, _, rfl, rfl, SqT.of ha, atI_nat (j := 0) rfl, ?_⟩
    refine ⟨_, rfl, rfl, _, rfl, iteF ?_⟩
    refine ⟨_, rfl, rfl, _, rfl, iteT ?_⟩
    refine ⟨_, rfl, _, rfl, ta, _, 1, _, rfl, rfl, SqT.of ha, atI_nat (j := 1) rfl, ?_⟩
    refine ⟨_, rfl, ta, _, 2, _, rfl, rfl, SqT.of ha, atI_nat (j := 2) rfl, _, rfl, v3, a, e, sc, env, _, rfl, h4, hI.scp, hI.e0, he, 0, endV env e, rfl, ?_⟩
    have e1 : 0 ≤ (if endV env e > 0 then endV env e else 0) ∧ (if endV env e > 0 then endV env e else 0) ≤ B + 99 := by
      split <;> omega
    exact ⟨_, rfl, pd, L, l, Pl, x, _, rfl, hI.lf, hI.pl, hC, e1.1, by omega, q⟩
  | test e f b c =>
    obtain ⟨ta, v1, v2, v3, v4, v5, rfl, ha, rfl, h4, h5, h6, h7⟩ := rp_t5 hR
    obtain ⟨he, hf, hbn, m', em, hB, hB2⟩ := hT
    subst em
    have hc' : 1 + cntB b + cntB c ≤ 1000 := hc
    have hI1 : LIn H pd a L l Pl sc env m' d := by
      obtain ⟨kvs, k1, k2, k3⟩ := hI.scp
      exact ⟨hI.lf, hI.pl, ⟨kvs, k1, by omega, k3⟩, hI.nin, hI.e0, hI.n0, B, b1, b2, by omega⟩
    refine ⟨_, rfl, ta, _, 0, _, rfl, rfl, SqT.of ha, atI_nat (j := 0) rfl, ?_⟩
    refine ⟨_, rfl, rfl, _, rfl, iteF ?_⟩
    refine ⟨_, rfl, rfl, _, rfl, iteF ?_⟩
    refine ⟨_, rfl, rfl, _, rfl, iteT ?_⟩
    refine ⟨_, rfl, _, rfl, ?_⟩
    refine ⟨_, rfl, ta, _, 1, _, rfl, rfl, SqT.of ha, atI_nat (j := 1) rfl, _, rfl, v2, a, e, sc, env, _, rfl, h4, hI.scp, hI.e0, he, ?_⟩
    refine ⟨_, rfl, ta, _, 2, _, rfl, rfl, SqT.of ha, atI_nat (j := 2) rfl, _, rfl, v3, a, f, sc, env, _, rfl, h5, hI.scp, hI.e0, hf, ?_⟩
    by_cases hle : endV env e ≤ endV env f
    · have hd : decide (endV env e > endV env f) = false := decide_eq_false (by omega)
      have es : stT (callS Pl d) env (.test e f b c) = stB (callS Pl d) env b := if_pos hle
      rw [es] at q
      refine ⟨_, _, rfl, rfl, .inr ⟨_, rfl, 3, _, rfl, rfl, ta, _, _, v4, rfl, rfl, SqT.of ha, ?_, ?_⟩⟩
      · show atI _ (3 + (if decide (endV env e > endV env f) = true then 1 else 0)) = _
        rw [hd]
        rfl
      exact ⟨_, rfl, _, rfl, pd, a, L, l, Pl, sc, env, v4, b, rfl, hI1, h6, hB, by omega, q⟩
    · have hd : decide (endV env e > endV env f) = true := decide_eq_true (by omega)
      have es : stT (callS Pl d) env (.test e f b c) = stB (callS Pl d) env c := if_neg hle
      rw [es] at q
      refine ⟨_, _, rfl, rfl, .inr ⟨_, rfl, 3, _, rfl, rfl, ta, _, _, v5, rfl, rfl, SqT.of ha, ?_, ?_⟩⟩
      · show atI _ (3 + (if decide (endV env e > endV env f) = true then 1 else 0)) = _
        rw [hd]
        rfl
      exact ⟨_, rfl, _, rfl, pd, a, L, l, Pl, sc, env, v5, c, rfl, hI1, h7, hB2, by omega, q⟩
  | loop x e f b =>
    obtain ⟨ta, v1, v2, v3, v4, v5, rfl, ha, rfl, rfl, h4, h5, h6⟩ := rp_t5 hR
    obtain ⟨hx, hxs, he, hf, hbn, m', em, hB⟩ := hT
    subst em
    refine ⟨_, rfl, ta, _, 0, _, rfl, rfl, SqT.of ha, atI_nat (j := 0) rfl, ?_⟩
    refine ⟨_, rfl, rfl, _, rfl, iteF ?_⟩
    refine ⟨_, rfl, rfl, _, rfl, iteF ?_⟩
    refine ⟨_, rfl, rfl, _, rfl, iteF ?_⟩
    refine ⟨_, rfl, rfl, _, rfl, iteF ?_⟩
    refine ⟨_, rfl, ta, _, 2, _, rfl, rfl, SqT.of ha, atI_nat (j := 2) rfl, _, rfl, v3, a, e, sc, env, _, rfl, h4, hI.scp, hI.e0, he, ?_⟩
    refine ⟨_, rfl, ta, _, 3, _, rfl, rfl, SqT.of ha, atI_nat (j := 3) rfl, _, rfl, v4, a, f, sc, env, _, rfl, h5, hI.scp, hI.e0, hf, ?_⟩
    have lo1 := end_bd he b1 hI.e0 b2
    have hi1 := end_bd hf b1 hI.e0 b2
    refine ⟨(by show 2 ≤ sizeLine; decide), fun p np => ⟨p, _, rfl, SqT.of upd_same, rfl, _, _, rfl, _, _, rfl, rfl, ?_⟩⟩
    have G0 : Go (· = L) H (upd H p (.tup [.int (endV env e), .int (endV env f)])) := Go.same (same_new np)
    generalize hlo : endV env e = lo at lo1 G0 ⊢
    generalize hhi : endV env f = hi at hi1 G0 ⊢
    replace q : LOut H L l (turns (fun i => stB (callS Pl d) (setE env x i) b) lo (hi + 1 - lo).toNat) Q := by rw [← hlo, ← hhi]; exact q
    generalize hF : (fun i => stB (callS Pl d) (setE env x i) b) = F at q
    refine ⟨_, rfl, _, rfl, hi, 1, rfl, rfl, lo, hi + 1, rfl, ⟨by omega, by omega, by omega, by omega⟩, ?_⟩
    refine for_range (lo := lo) (n := (hi + 1 - lo).toNat) (fun i σ H' => ∃ (tot ni : Int), (∃ x6 x9, σ = [some (.ref pd), some (.ref ta), some (.ref a), some (.ref L), some (.str "for"), some (.int tot), x6, some (.int lo), some (.int hi), x9]) ∧ (0 ≤ ni → tot = (turns F lo i).1 ∧ ni = l - (turns F lo i).2) ∧ LfAt H' L ni ∧ Go (· = L) H H') ⟨0, l, ⟨_, _, rfl⟩, fun _ => ⟨rfl, (Int.sub_zero l).symm⟩, same_new np _ _ hI.lf, G0⟩ (fun i σ H2 hi2 hP => ?_) (fun σ H2 hP => ?_)
    · obtain ⟨tot, ni, ⟨x6, x9, rfl⟩, hn, hL2, G2⟩ := hP
      refine ⟨_, rfl, L, _, 0, _, rfl, rfl, SqL.of hL2, atI_nat (j := 0) rfl, ni, 0, rfl, rfl, _, rfl, ite2 (fun c => ?_) (fun c => ?_)⟩
      · have n0 : ni < 0 := of_decide_eq_true c
        exact ⟨_, rfl, q tot ni H2 (fun z => absurd z (by omega)) hL2 G2⟩
      have n0 : 0 ≤ ni := by
        have := of_decide_eq_false (Bool.eq_false_iff.mpr c)
        omega
      obtain ⟨e1, e2⟩ := hn n0
      refine ⟨_, rfl, L, _, 0, _, rfl, rfl, SqL.of hL2, atI_nat (j := 0) rfl, ni, 1, rfl, rfl, _, rfl, L, _, 0, 0, rfl, rfl, hL2, rfl, ?_⟩
      have L3 := lf_set (ni - 1) hL2
      have G3 := G2.trans L3.2
      obtain ⟨kvs, k1, k2, k3⟩ := hI.scp.goL hI.lf G3
      refine ⟨_, rfl, a, kvs, rfl, .inl k1, fun p2 np2 => ?_⟩
      have g2 : Go (· = L) (upd H2 L (.lst [.int (ni - 1)])) (upd (upd (upd H2 L (.lst [.int (ni - 1)])) p2 (.dK kvs)) p2 (.dK (putK kvs (.inr x) (.int (lo + i))))) := ((Go.refl _ _).new np2).own np2
      have G4 := G3.trans g2
      refine ⟨_, rfl, rfl, _, rfl, iteT ?_⟩
      refine ⟨_, rfl, _, rfl, _, rfl, ta, _, 1, _, rfl, rfl, SqT.of (((Go.refl _ _).new np2 : Go (· = L) _ _).im _ _ (G3.im _ _ ha)), atI_nat (j := 1) rfl, p2, _, rfl, DPut.k (k := .inr x) upd_same (szl (by omega)), ?_⟩
      have n1 : L ≠ p2 := ne_of_none L3.1 np2
      have hLf : LfAt (upd (upd (upd H2 L (.lst [.int (ni - 1)])) p2 (.dK kvs)) p2 (.dK (putK kvs (.inr x) (.int (lo + i))))) L (ni - 1) := by
        unfold LfAt
        rw [upd_ne n1, upd_ne n1]
        exact L3.1
      have xn := name_nn hx
      have xe := name_ne hx
      have ew : setE env x (lo + i) "n" = env "n" := if_neg (fun z => xn z.symm)
      have e0 : setE env x (lo + i) "" = 0 := (if_neg (fun z => xe z.symm)).trans hI.e0
      have eF : F (lo + i) = stB (callS Pl d) (setE env x (lo + i)) b := by rw [← hF]
      refine ⟨_, rfl, _, rfl, _, rfl, 1, rfl, ta, _, -1, _, rfl, rfl, SqT.of (G4.im _ _ ha), rfl, _, rfl, _, rfl, pd, p2, L, ni - 1, Pl, sc ++ [x], setE env x (lo + i), v5, b, rfl, ⟨hLf, hI.pl.goL hI.lf G4, sc_setL (m := m' + 1) (by omega) k3 upd_same, List.mem_append_left _ hI.nin, e0, by rw [ew]; exact hI.n0, B + 99, bd_set b1 (by omega) (by omega), by omega, by omega⟩, h6.to G4.im, hB, cnt_body hc, fun v1 l1 H5 h5' hL5 G5 => ?_⟩
      rw [← eF] at h5'
      refine ⟨_, _, rfl, rfl, tot + v1, l1, ⟨_, _, rfl⟩, fun z => ?_, hL5, G4.trans G5⟩
      obtain ⟨rfl, e5⟩ := h5' z
      refine ⟨by rw [e1]; rfl, ?_⟩
      show l1 = l - (((turns F lo i).2 + (1 + (F (lo + i)).2) : Nat) : Int)
      omega
    · obtain ⟨tot, ni, ⟨x6, x9, rfl⟩, hn, hL2, G2⟩ := hP
      exact ⟨_, rfl, q tot ni H2 hn hL2 G2⟩
  | twice b =>
    obtain ⟨ta, v1, v2, rfl, ha, rfl, h4⟩ := rp_t2 hR
    obtain ⟨hbn, m', em, hB⟩ := hT
    subst em
    have hc' : 1 + cntB b ≤ 1000 := hc
    refine ⟨_, rfl, ta, _, 0, _, rfl, rfl, SqT.of ha, atI_nat (j := 0) rfl, ?_⟩
    refine ⟨_, rfl, rfl, _, rfl, iteF ?_⟩
    refine ⟨_, rfl, rfl, _, rfl, iteF ?_⟩
    refine ⟨_, rfl, rfl, _, rfl, iteF ?_⟩
    refine ⟨_, rfl, rfl, _, rfl, iteT ?_⟩
    obtain ⟨kv0, c1, c2, c3⟩ := hI.scp
    have g := DGet.k (k := .inr "n") c1
    rw [c3 "n" hI.nin] at g
    have hn := b1 "n" hI.nin
    have hbits : Builtin.Int.intBits (env "n") ≤ 64 := intBits_le (k := 64) (by omega)
    refine ⟨_, rfl, a, _, rfl, g, env "n", rfl, ?_⟩
    replace q : LOut H L l (turns (fun _ => stB (callS Pl d) env b) 0 (Builtin.Int.intBits (env "n"))) Q := q
    generalize Builtin.Int.intBits (env "n") = N at q hbits ⊢
    generalize hF : (fun (_ : Int) => stB (callS Pl d) env b) = F at q
    refine ⟨(by show 2 ≤ sizeLine; decide), fun p np => ⟨p, _, rfl, SqT.of upd_same, rfl, _, _, rfl, _, _, rfl, rfl, ?_⟩⟩
    have G0 : Go (· = L) H (upd H p (.tup [.int 1, .int (N : Int)])) := Go.same (same_new np)
    refine ⟨_, rfl, _, rfl, (N : Int), 1, rfl, rfl, 1, (N : Int) + 1, rfl, ⟨by omega, by omega, by omega, by omega⟩, ?_⟩
    have eN : ((N : Int) + 1 - 1).toNat = N := by omega
    rw [eN]
    refine for_range (lo := 1) (n := N) (fun i σ H' => ∃ (tot ni : Int), (∃ x6 x9, σ = [some (.ref pd), some (.ref ta), some (.ref a), some (.ref L), some (.str "double"), some (.int tot), x6, some (.int 1), some (.int N), x9]) ∧ (0 ≤ ni → tot = (turns F 0 i).1 ∧ ni = l - (turns F 0 i).2) ∧ LfAt H' L ni ∧ Go (· = L) H H') ⟨0, l, ⟨_, _, rfl⟩, fun _ => ⟨rfl, (Int.sub_zero l).symm⟩, same_new np _ _ hI.lf, G0⟩ (fun i σ H2 hi2 hP => ?_) (fun σ H2 hP => ?_)
    · obtain ⟨tot, ni, ⟨x6, x9, rfl⟩, hn, hL2, G2⟩ := hP
      refine ⟨_, rfl, L, _, 0, _, rfl, rfl, SqL.of hL2, atI_nat (j := 0) rfl, ni, 0, rfl, rfl, _, rfl, ite2 (fun c => ?_) (fun c => ?_)⟩
      · have n0 : ni < 0 := of_decide_eq_true c
        exact ⟨_, rfl, q tot ni H2 (fun z => absurd z (by omega)) hL2 G2⟩
      have n0 : 0 ≤ ni := by
        have := of_decide_eq_false (Bool.eq_false_iff.mpr c)
        omega
      obtain ⟨e1, e2⟩ := hn n0
      refine ⟨_, rfl, L, _, 0, _, rfl, rfl, SqL.of hL2, atI_nat (j := 0) rfl, ni, 1, rfl, rfl, _, rfl, L, _, 0, 0, rfl, rfl, hL2, rfl, ?_⟩
      have L3 := lf_set (ni - 1) hL2
      have G3 := G2.trans L3.2
      obtain ⟨kvs, k1, k2, k3⟩ := hI.scp.goL hI.lf G3
      refine ⟨_, rfl, a, kvs, rfl, .inl k1, fun p2 np2 => ?_⟩
      have G4 : Go (· = L) H _ := G3.new (o := .dK kvs) np2
      refine ⟨_, rfl, rfl, _, rfl, iteF ?_⟩
      have hLf : LfAt (upd (upd H2 L (.lst [.int (ni - 1)])) p2 (.dK kvs)) L (ni - 1) := same_new np2 _ _ L3.1
      have eF : F (0 + i) = stB (callS Pl d) env b := by rw [← hF]
      refine ⟨_, rfl, _, rfl, _, rfl, 1, rfl, ta, _, -1, _, rfl, rfl, SqT.of (G4.im _ _ ha), rfl, _, rfl, _, rfl, pd, p2, L, ni - 1, Pl, sc, env, v2, b, rfl, ⟨hLf, hI.pl.goL hI.lf G4, ⟨kvs, upd_same, by omega, k3⟩, hI.nin, hI.e0, hI.n0, B, b1, b2, by omega⟩, h4.to G4.im, hB, by omega, fun v1 l1 H5 h5' hL5 G5 => ?_⟩
      rw [← eF] at h5'
      refine ⟨_, _, rfl, rfl, tot + v1, l1, ⟨_, _, rfl⟩, fun z => ?_, hL5, G4.trans G5⟩
      obtain ⟨rfl, e5⟩ := h5' z
      refine ⟨by rw [e1]; rfl, ?_⟩
      show l1 = l - (((turns F 0 i).2 + (1 + (F (0 + i)).2) : Nat) : Int)
      omega
    · obtain ⟨tot, ni, ⟨x6, x9, rfl⟩, hn, hL2, G2⟩ := hP
      exact ⟨_, rfl, q tot ni H2 hn hL2 G2⟩
end
end K08

set_option Elab.async false
set_option linter.all false
set_option maxRecDepth 100000
set_option maxHeartbeats 4000000
namespace K08
open PySem PySem.Spec PyProof.Rows L2 OG
open C8 (pss_cut pe_gc)

section
variable {P : Program} {w : World} {K : PySem.W.Frag} {mg : Str → Option Value} {base : Heap}
def agR (F : Int → Int × Nat) (k : Int) (w : Str) : Nat → Int → Int → Int × Nat
  | 0, _, _ => (0, 0)
  | n + 1, m, s => if s = 0 then (0, 0) else ((agS F k w n (m * k) (less s w)).1, 1 + (agS F k w n (m * k) (less s w)).2)
theorem agS_eq (F : Int → Int × Nat) (k : Int) (w : Str) (n : Nat) (m s : Int) : agS F k w n m s = (m * (F s).1 + (agR F k w n m s).1, (F s).2 + (agR F k w n m s).2) := by
  cases n with
  | zero =>
    show (m * (F s).1, (F s).2) = (m * (F s).1 + 0, (F s).2 + 0)
    rw [Int.add_zero, Nat.add_zero]
  | succ n =>
    show (if s = 0 then (m * (F s).1, (F s).2) else _) = (m * (F s).1 + (if s = 0 then (0, 0) else _ : Int × Nat).1, (F s).2 + (if s = 0 then (0, 0) else _ : Int × Nat).2)
    by_cases e : s = 0
    · rw [if_pos e, if_pos e]
      show (m * (F s).1, (F s).2) = (m * (F s).1 + 0, (F s).2 + 0)
      rw [Int.add_zero, Nat.add_zero]
    · rw [if_neg e, if_neg e]
theorem way_ok {C : Str → Prop} {A : Prop} {sc : List Str} {n : Nat} : ∀ {ts : List Thing} {k : Int} {w : Str}, TsOk C A sc n ts → wayOf ts = some (k, w) → AgOk k w
  | [], k, w, _, h => by cases h
  | t :: r, k, w, hT, h => by
    cases t with
    | again k' w' =>
      have e : some (k', w') = some (k, w) := h
      cases e
      exact hT.1.2
    | step _ => exact way_ok (ts := r) hT.2 h
    | loop _ _ _ _ => exact way_ok (ts := r) hT.2 h
    | test _ _ _ _ => exact way_ok (ts := r) hT.2 h
    | twice _ => exact way_ok (ts := r) hT.2 h
    | call _ _ => exact way_ok (ts := r) hT.2 h
theorem less_key {sz : Int} {w : Str} {k : Int} (h : AgOk k w) : valV (mergeK [] [(.inr "halves", V.int (sz / 2)), (.inr "thirds", V.int (sz / 3)), (.inr "less", V.int (sz - 1))]) (.inr w : Key) = some (.int (less sz w)) := by
  show valV (putK (putK (putK [] (.inr "halves" : Key) (V.int (sz / 2))) (.inr "thirds") (V.int (sz / 3))) (.inr "less") (V.int (sz - 1))) (.inr w) = _
  rw [valV_put, valV_put, valV_put]
  unfold less
  rcases h.2.2 with rfl | rfl | rfl
  · rw [if_neg (fun z => absurd (Sum.inr.inj z) (by decide +kernel)), if_neg (fun z => absurd (Sum.inr.inj z) (by decide +kernel)), if_pos rfl, if_neg (by decide +kernel), if_pos rfl]
  · rw [if_neg (fun z => absurd (Sum.inr.inj z) (by decide +kernel)), if_pos rfl, if_neg (by decide +kernel), if_neg (by decide +kernel)]
  · rw [if_pos rfl, if_pos rfl]
theorem plan_inL {H H' : Hp} {pd p L : Addr} {l l' : Int} {Pl : Pls} {sz : Int} {d : Nat} (hL : LfAt H L l) (hP : PlAt H pd Pl) (g : Go (· = L) H H') (hL' : LfAt H' L l') (hp : H' p = some (.dK (mergeK [] [(.inr "n", .int sz)]))) (h0 : 0 ≤ sz) (hb : sz + 1000 * d ≤ 65136) : LIn H' pd p L l' Pl ["n"] (env0 sz) 4 d := by
  have en : env0 sz "n" = sz := if_pos rfl
  have ee : env0 sz "" = 0 := if_neg (by decide +kernel)
  refine ⟨hL', hP.goL hL g, ⟨_, hp, (by show 1 + 5 ≤ 100; decide), fun y hy => ?_⟩, List.mem_singleton.mpr rfl, ee, by rw [en]; exact h0, sz, fun y hy => ?_, h0, by omega⟩
  · rw [List.mem_singleton.mp hy, en]
    show valV (putK [] (.inr "n" : Key) (V.int sz)) (.inr "n") = _
    rw [valV_put, if_pos rfl]
  · rw [List.mem_singleton.mp hy, en]
    omega
def spWay : Sp := fun vs H Q _ => ∃ (v : V) (ts : List Thing) (C : Str → Prop) (A : Prop) (sc : List Str) (n : Nat), vs = [v] ∧ Rp H v (.tup (encs ts)) ∧ TsOk C A sc n ts ∧ ScOk sc ∧ n ≤ 20 ∧ cntB ts ≤ 1000 ∧ ∀ u H', Same H H' → (match wayOf ts with | none => u = .non | some (k, w) => ∃ a, u = .ref a ∧ H' a = some (.tup [.str "again", .int k, .str w])) → Q u H'
theorem filt_way : ∀ ts : List Thing, match ts.filter isAg with | [] => wayOf ts = none | t :: _ => ∃ k w, t = .again k w ∧ wayOf ts = some (k, w)
  | [] => rfl
  | t :: r => by
    have ih := filt_way r
    cases t with
    | again k w => exact ⟨k, w, rfl, rfl⟩
    | step _ => exact ih
    | loop _ _ _ _ => exact ih
    | test _ _ _ _ => exact ih
    | twice _ => exact ih
    | call _ _ => exact ih
theorem cnt_len2 (ts : List Thing) : ts.length ≤ cntB ts := cnt_len ts
theorem eqv_nilP (ds : List PyData) : PyData.eqv (.list ds) (.list []) = ds.isEmpty := by
  cases ds with
  | nil => decide +kernel
  | cons t r => simp [PyData.eqv, PyData.eqvAll]
theorem ok_l_way (T : Tops w K mg) : FnOk P w K mg base CX0 1 T.fl_way T.dl_way ["_law_plan"] spWay := by
  refine T.Fl_way.ok (k := 0) scl_way (fun vs H Q E h => ?_) (fun cdv A outer s H vs Q E hr h => ?_)
  · obtain ⟨v, ts, C, A', sc, n, rfl, _⟩ := h
    rfl
  obtain ⟨v, ts, C, A', sc, n, rfl, hR, hT, hs, hn, hc, q⟩ := h
  refine ⟨_, (pss_cons (ps_setLc (i := 1) (own := [("_law_thing", 2)]) rfl scl_way.nd rfl rfl (sw_true rfl rfl rfl (by decide +kernel)) (pi_tup (pv 0)) (blkOk_by (N := Nl_way) (sc := defScope sl_way) (by decide +kernel)) (fun _ _ _ _ _ => (pg_name (i := 2) scl_way.nd rfl (Or.inl rfl))) (fun _ _ _ _ _ => (pts_one (pt_cmpR op_eq (pe_ix (ix_tupK (K := K) rfl) (pv 2) pe_int (fun _ _ => rfl)) pe_str (nomark _)))) (fun _ _ _ _ _ => (pv 2)))
 (pss_one (ps_ret (pe_ifExp (pt_cmpR (op_neD hr.units) (pv 1) (pe_lst pa_nil) (nomark _)) (pe_ix ix_list (pv 1) pe_int (fun _ _ => rfl)) pe_non)))), ?_⟩
  obtain ⟨ta, vs, rfl, ha, hvs⟩ := id hR
  have hlen := hvs.length
  rw [encs_length] at hlen
  have lc := cnt_len ts
  refine ⟨_, rfl, ta, rfl, ⟨_, SqT.of ha⟩, fun D nD => ?_⟩
  refine lc_tup (xs := vs) (fun i H' => Same H H' ∧ ∃ ws, H' D = some (.lst ws) ∧ RpL H' ws (encs ((ts.take i).filter isAg)) ∧ ws.length ≤ i) ⟨same_new nD, [], upd_same, rpl_nil, Nat.le_refl _⟩ (fun i H' _ hP => SqT.of (hP.1 _ _ ha)) (fun i x H' hx hP => ?_) (fun H' hP => ?_)
  · obtain ⟨sm, ws, hD, hws, hl⟩ := hP
    obtain ⟨t, ht, hRt⟩ := rpl_things hvs hx
    have hi : i < vs.length := (List.getElem?_eq_some_iff.mp hx).1
    obtain ⟨b, us, rfl, hb⟩ := rp_kind (hRt.to (Imm.same sm))
    have et : ts.take (i + 1) = ts.take i ++ [t] := by rw [List.take_add_one, ht]; rfl
    refine ⟨rfl, ?_⟩
    cases hag : isAg t with
    | true =>
      have hk : kindT t = "again" := by
        cases t with
        | again k w => rfl
        | _ => cases hag
      refine ⟨_, rfl, b, _, 0, _, rfl, rfl, SqT.of hb, atI_nat (j := 0) rfl, rfl, _, rfl, ite2 (fun _ => ?_) (fun c => absurd (decide_eq_true (by rw [hk])) c)⟩
      refine ⟨_, rfl, ws, hD, szl (by omega), Same.upd_new sm nD, ws ++ [.ref b], upd_same, ?_, by rw [List.length_append]; show ws.length + 1 ≤ i + 1; omega⟩
      have im : Imm H' (upd H' D (.lst (ws ++ [.ref b]))) := (Imm.refl H').upd fun xs e => by rw [hD] at e; cases e
      rw [et, List.filter_append, List.filter_cons_of_pos hag, List.filter_nil, encs_append]
      exact RpL.append (hws.to im) (rpl_cons ((hRt.to (Imm.same sm)).to im) rpl_nil)
    | false =>
      have hk := kind_ag hag
      refine ⟨_, rfl, b, _, 0, _, rfl, rfl, SqT.of hb, atI_nat (j := 0) rfl, rfl, _, rfl, ite2 (fun c => absurd (V.str.inj (of_decide_eq_true c)) hk) (fun _ => ?_)⟩
      refine ⟨sm, ws, hD, ?_, by omega⟩
      rw [et, List.filter_append, List.filter_cons_of_neg (by rw [hag]; exact Bool.false_ne_true), List.filter_nil, List.append_nil]
      exact hws
  · obtain ⟨sm, ws, hD, hws, hl⟩ := hP
    rw [hlen, List.take_length] at hws
    refine ⟨_, rfl, Nat.zero_le _, fun e ne => ?_⟩
    have s2 := same_new (o := .lst []) ne
    have hT2 : TsOk C A' sc n (ts.filter isAg) := (tsok_iff _).mpr fun t ht => (tsok_iff ts).mp hT t (List.mem_filter.mp ht).1
    have py := things_py _ _ _ hT2 hs
    have sh : SeqAt.shaped (.list (toPys (encs (ts.filter isAg)))) = true := by
      unfold SeqAt.shaped
      rw [Bool.and_eq_true]
      refine ⟨py.1, decide_eq_true ?_⟩
      show PyData.depthAll (toPys (encs (ts.filter isAg))) + 1 ≤ 64
      have := py.2
      omega
    have hws2 := hws.to (Imm.same s2)
    refine ⟨_, _, .lst (SqL.of (s2 _ _ hD)) (rp_dps _ _ hws2), .lst (SqL.of upd_same) .nil, sh, rfl, ?_⟩
    rw [eqv_nilP]
    have fw := filt_way ts
    cases hfl : ts.filter isAg with
    | nil =>
      rw [hfl] at fw
      have fw2 : wayOf ts = none := fw
      exact ⟨_, rfl, iteF (q _ _ (sm.trans s2) (by rw [fw2]))⟩
    | cons t r =>
      rw [hfl] at fw hws2
      obtain ⟨k, w0, rfl, hw⟩ := fw
      obtain ⟨x, ws', rfl, hx1, _⟩ := hws2
      obtain ⟨b, v1, v2, v3, rfl, hb, rfl, rfl, rfl⟩ := rp_t3 hx1
      refine ⟨_, rfl, iteT ⟨_, rfl, D, _, 0, _, rfl, rfl, SqL.of (s2 _ _ hD), atI_nat (j := 0) rfl, q _ _ (sm.trans s2) ?_⟩⟩
      rw [hw]
      exact ⟨b, rfl, hb⟩
theorem ok_l_walk (T : Tops w K mg) (d k : Nat) (Gl_way : FnOk P w K mg base CX0 1 T.fl_way T.dl_way ["_law_plan"] spWay) (Gl_walk_body : FnOk P w K mg base CX0 k T.fl_walk_body T.dl_walk_body ["_law_plans", "_law_body", "_law_names", "_law_left"] (spLBs 4 d)) (hk1 : 1 ≤ k) :
    FnOk P w K mg base CX0 (k + 1) T.fl_walk T.dl_walk ["_law_plans", "_law_name", "_law_size", "_law_left"] (spLPs (d + 1)) := by
  refine T.Fl_walk.ok (k := k) scl_walk (fun vs H Q E h => ?_) (fun cdv A outer s H vs Q E hr h => ?_)
  · obtain ⟨pd, L, l, Pl, x, s, rfl, _⟩ := h
    rfl
  obtain ⟨pd, L, l, Pl, x, s, rfl, hL, hP, hk, hs0, hsb, q⟩ := h
  obtain ⟨ts, hPl, hT, hc, hway⟩ := hk
  have eS : callS Pl (d + 1) x s = planS (callS Pl d) ts s := by
    show (match Pl x with | none => (0, 0) | some ts => planS (callS Pl d) ts s) = _
    rw [hPl]
  rw [eS] at q
  refine ⟨_, (pss_cons (ps_set (i := 4) scl_walk.nd rfl (Or.inl rfl) (pe_call Gl_way (hr.mono (by omega)) (by rfl) T.gl_way T.Fl_way.kp T.bl_way .nil pass0 (pa_cons (pe_dget (hu_of hr) (pv 0) (pv 1) (fun _ _ => rfl)) pa_nil)))
 (pss_cons (ps_set (i := 5) scl_walk.nd rfl (Or.inl rfl) (pe_call Gl_walk_body (hr.mono (by omega)) (by rfl) T.gl_walk_body T.Fl_walk_body.kp T.bl_walk_body .nil pass0 (pa_cons (pv 0) (pa_cons (pe_dget (hu_of hr) (pv 0) (pv 1) (fun _ _ => rfl)) (pa_cons (pe_disp (pps_cons pe_str (pv 2) pps_nil) (by rfl) (by rfl) (fun z => by cases z) (by decide)) (pa_cons (pv 3) pa_nil))))))
 (pss_cons (ps_set (i := 6) scl_walk.nd rfl (Or.inl rfl) pe_int)
 (pss_cons (ps_while PassesOwn.never (PW.pt (pw_and (pt_cmpR op_notN (pv 4) pe_non (nomark _)) (pw_and (pt_cmpR op_gt (pv 2) pe_int (nomark _)) (pw_and1 (pt_cmpR op_ge (pe_ix ix_list (pv 3) pe_int (fun _ _ => rfl)) pe_int (nomark _))))))
  (pss_cons (ps_asg (pe_op op_sub (pe_ix ix_list (pv 3) pe_int (fun _ _ => rfl)) pe_int) (pg_sub (pv 3) pe_int set_list))
 (pss_cons (ps_set (i := 6) scl_walk.nd rfl (Or.inl rfl) (pe_op op_mul (pv 6) (pe_ix ix_tup (pv 4) pe_int (fun _ _ => rfl))))
 (pss_cons (ps_set (i := 2) scl_walk.nd rfl (Or.inl rfl) (pe_dget (hu_of hr) (pe_disp (pps_cons pe_str (pe_op op_fdiv (pv 2) pe_int) (pps_cons pe_str (pe_op op_fdiv (pv 2) pe_int) (pps_cons pe_str (pe_op op_sub (pv 2) pe_int) pps_nil))) (by rfl) (by rfl) (fun z => by cases z) (by decide)) (pe_ix ix_tup (pv 4) pe_int (fun _ _ => rfl)) (fun _ _ => rfl)))
 (pss_one (ps_set (i := 5) scl_walk.nd rfl (Or.inl rfl) (pe_op op_add (pv 5) (pe_op op_mul (pv 6) (pe_call Gl_walk_body (hr.mono (by omega)) (by rfl) T.gl_walk_body T.Fl_walk_body.kp T.bl_walk_body .nil pass0 (pa_cons (pv 0) (pa_cons (pe_dget (hu_of hr) (pv 0) (pv 1) (fun _ _ => rfl)) (pa_cons (pe_disp (pps_cons pe_str (pv 2) pps_nil) (by rfl) (by rfl) (fun z => by cases z) (by decide)) (pa_cons (pv 3) pa_nil)))))))))))))
 (pss_one (ps_ret (pv 5))))))), ?_⟩
  -- a plan's place stays
  have look : ∀ {H' : Hp}, Go (· = L) H H' → ∃ v, DGet H' pd (.str x) (some v) ∧ Rp H' v (.tup (encs ts)) := fun {H'} g => by
    obtain ⟨kvs, h1, h2⟩ := hP.goL hL g
    obtain ⟨v, h3, hR⟩ := h2 x ts hPl
    have gg := rd_get (k := .inr x) h1
    rw [h3] at gg
    exact ⟨v, gg, hR⟩
  obtain ⟨v, g, hR⟩ := look (Go.refl _ H)
  refine ⟨_, rfl, _, rfl, pd, _, rfl, g, v, ts, _, _, _, _, rfl, hR, hT, scOk_n, by decide, hc, fun u H1 s1 hu => ?_⟩
  have gs : Go (· = L) H H1 := Go.same s1
  have hL1 : LfAt H1 L l := s1 _ _ hL
  have hP1 : PlAt H1 pd Pl := hP.goL hL gs
  have q1 : LOut H1 L l (planS (callS Pl d) ts s) Q := fun v l' H' x1 x2 x3 => q v l' H' x1 x2 (gs.trans x3)
  have look1 : ∀ {H' : Hp}, Go (· = L) H1 H' → ∃ v, DGet H' pd (.str x) (some v) ∧ Rp H' v (.tup (encs ts)) := fun {H'} g => look (gs.trans g)
  obtain ⟨v', g1, hR1⟩ := look1 (Go.refl _ H1)
  refine ⟨_, rfl, _, rfl, _, rfl, pd, _, rfl, g1, fun p np => ⟨_, rfl, upd_same, [(.inr "n", .int s)], rfl, (by show 1 ≤ 15; decide), _, rfl, ?_⟩⟩
  have ss : Same H1 (upd (upd H1 p (.dK [])) p (.dK (mergeK [] [(.inr "n", .int s)]))) := fun b u hb => by
    rw [upd_ne (ne_of_none hb np), upd_ne (ne_of_none hb np)]
    exact hb
  have g0 : Go (· = L) H1 _ := Go.same ss
  refine ⟨pd, p, L, l, Pl, ["n"], env0 s, v', ts, rfl, plan_inL hL1 hP1 g0 (ss _ _ hL1) upd_same hs0 (by omega), hR1.to g0.im, hT, hc, fun v1 l1 H2 h1 hL2 G2 => ?_⟩
  have G02 := g0.trans G2
  unfold planS at q1
  cases hw : wayOf ts with
  | none =>
    rw [hw] at q1 hu
    have hu2 : u = .non := hu
    subst hu2
    dsimp only at q1
    refine ⟨fun n σ H' => σ = [some (.ref pd), some (.str x), some (.int s), some (.ref L), some .non, some (.int v1), some (.int 1)] ∧ H' = H2, ⟨0, rfl, rfl⟩, ?_⟩
    rintro n σ H' ⟨rfl, rfl⟩
    refine ⟨_, rfl, rfl, _, rfl, iteF ?_⟩
    exact ⟨_, rfl, q1 v1 l1 H' h1 hL2 G02⟩
  | some kw =>
    obtain ⟨k0, w0⟩ := kw
    rw [hw] at q1 hu
    obtain ⟨ua, rfl, hua⟩ := hu
    obtain ⟨k1, k9, kl⟩ := hway k0 w0 hw
    have hag := way_ok hT hw
    dsimp only at q1
    generalize hF : (fun s => stB (callS Pl d) (env0 s) ts) = F at q1
    have eF : ∀ z, F z = stB (callS Pl d) (env0 z) ts := fun z => by rw [← hF]
    rw [← eF] at h1
    rw [agS_eq] at q1
    refine ⟨fun n σ H' => ∃ (sz tot m ni : Int), sz.toNat ≤ n ∧ 0 ≤ sz ∧ sz ≤ s ∧ σ = [some (.ref pd), some (.str x), some (.int sz), some (.ref L), some (.ref ua), some (.int tot), some (.int m)] ∧ (0 ≤ ni → ∃ V0 : Nat, ni = l - V0 ∧ tot + (agR F k0 w0 n m sz).1 = 1 * (F s).1 + (agR F k0 w0 s.toNat 1 s).1 ∧ V0 + (agR F k0 w0 n m sz).2 = (F s).2 + (agR F k0 w0 s.toNat 1 s).2) ∧ LfAt H' L ni ∧ Go (· = L) H1 H' ∧ TmOk m sz s w0, ⟨s.toNat, s, v1, 1, l1, Nat.le_refl _, hs0, Int.le_refl _, rfl, fun z => ?_, hL2, G02, ?_⟩, ?_⟩
    · obtain ⟨e1, e2⟩ := h1 z
      exact ⟨(F s).2, e2, by rw [e1]; omega, rfl⟩
    · by_cases e : w0 = "less"
      · exact .inl ⟨e, rfl⟩
      · exact .inr ⟨e, 0, by decide, by decide, by decide, fun _ => by rw [Int.pow_zero, Int.mul_one]; exact Int.le_refl _⟩
    rintro n σ H3 ⟨sz, tot, m, ni, hf, z0, zs, rfl, hn, hL3, G3, hm⟩
    refine ⟨_, rfl, rfl, _, rfl, iteT ?_⟩
    refine ⟨_, rfl, sz, 0, rfl, rfl, _, rfl, ite2 (fun c => ?_) (fun c => ?_)⟩
    · have pos : 0 < sz := of_decide_eq_true c
      refine ⟨_, rfl, L, _, 0, _, rfl, rfl, SqL.of hL3, atI_nat (j := 0) rfl, ni, 0, rfl, rfl, _, rfl, ite2 (fun c => ?_) (fun c => ?_)⟩
      · have n0 : 0 ≤ ni := of_decide_eq_true c
        obtain ⟨V0, e1, e2, e3⟩ := hn n0
        have ls := less_lt (w := w0) pos
        cases n with
        | zero => omega
        | succ n =>
        have f1 : (less sz w0).toNat ≤ n := by clear hn q1 h1; omega
        have f2 : less sz w0 ≤ s := by clear hn q1 h1; omega
        have er : agR F k0 w0 (n + 1) m sz = ((agS F k0 w0 n (m * k0) (less sz w0)).1, 1 + (agS F k0 w0 n (m * k0) (less sz w0)).2) := if_neg (by omega)
        rw [er, agS_eq] at e2 e3
        dsimp only at e2 e3
        have hm2 := hm.next pos (by omega) k1 k9 kl
        refine ⟨fun σ' H' => ∃ n', n' < n + 1 ∧ ∃ (sz tot m ni : Int), sz.toNat ≤ n' ∧ 0 ≤ sz ∧ sz ≤ s ∧ σ' = [some (.ref pd), some (.str x), some (.int sz), some (.ref L), some (.ref ua), some (.int tot), some (.int m)] ∧ (0 ≤ ni → ∃ V0 : Nat, ni = l - V0 ∧ tot + (agR F k0 w0 n' m sz).1 = 1 * (F s).1 + (agR F k0 w0 s.toNat 1 s).1 ∧ V0 + (agR F k0 w0 n' m sz).2 = (F s).2 + (agR F k0 w0 s.toNat 1 s).2) ∧ LfAt H' L ni ∧ Go (· = L) H1 H' ∧ TmOk m sz s w0, fun _ _ z => z, ?_⟩
        refine ⟨_, rfl, L, _, 0, _, rfl, rfl, SqL.of hL3, atI_nat (j := 0) rfl, ni, 1, rfl, rfl, _, rfl, L, _, 0, 0, rfl, rfl, hL3, rfl, ?_⟩
        have L4 := lf_set (ni - 1) hL3
        have G4 := G3.trans L4.2
        refine ⟨_, rfl, _, rfl, ua, _, 1, _, rfl, rfl, SqT.of (G4.im _ _ hua), atI_nat (j := 1) rfl, m, k0, rfl, rfl, .inl hm.lt, ?_⟩
        refine fun p2 np2 => ⟨_, rfl, sz, 2, rfl, rfl, ⟨by decide, by decide⟩, _, rfl, sz, 3, rfl, rfl, ⟨by decide, by decide⟩, _, rfl, sz, 1, rfl, rfl, upd_same, [(.inr "halves", .int (sz / 2)), (.inr "thirds", .int (sz / 3)), (.inr "less", .int (sz - 1))], rfl, (by show 3 ≤ 15; decide), ?_⟩
        have s5 : Same (upd H3 L (.lst [.int (ni - 1)])) (upd (upd (upd H3 L (.lst [.int (ni - 1)])) p2 (.dK [])) p2 (.dK (mergeK [] [(.inr "halves", .int (sz / 2)), (.inr "thirds", .int (sz / 3)), (.inr "less", .int (sz - 1))]))) := fun b u hb => by
          rw [upd_ne (ne_of_none hb np2), upd_ne (ne_of_none hb np2)]
          exact hb
        have G5 : Go (· = L) H1 _ := G4.trans (Go.same s5)
        have gd : DGet (upd (upd (upd H3 L (.lst [.int (ni - 1)])) p2 (.dK [])) p2 (.dK (mergeK [] [(.inr "halves", .int (sz / 2)), (.inr "thirds", .int (sz / 3)), (.inr "less", .int (sz - 1))]))) p2 (.str w0) (some (.int (less sz w0))) := by
          rw [← less_key (sz := sz) hag]
          exact DGet.k (k := .inr w0) upd_same
        refine ⟨_, rfl, ua, _, 2, _, rfl, rfl, SqT.of (G5.im _ _ hua), atI_nat (j := 2) rfl, p2, _, rfl, gd, ?_⟩
        obtain ⟨v5, g5, hR5⟩ := look1 G5
        refine ⟨_, rfl, _, rfl, _, rfl, _, rfl, _, rfl, pd, _, rfl, g5, fun p3 np3 => ⟨_, rfl, upd_same, [(.inr "n", .int (less sz w0))], rfl, (by show 1 ≤ 15; decide), _, rfl, ?_⟩⟩
        have s6 : Same _ (upd (upd _ p3 (.dK [])) p3 (.dK (mergeK [] [(.inr "n", .int (less sz w0))]))) := fun b u hb => by
          rw [upd_ne (ne_of_none hb np3), upd_ne (ne_of_none hb np3)]
          exact hb
        have G6 := G5.trans (Go.same s6)
        refine ⟨pd, p3, L, ni - 1, Pl, ["n"], env0 (less sz w0), v5, ts, rfl, plan_inL hL1 hP1 G6 (s6 _ _ (s5 _ _ L4.1)) upd_same ls.1 (by omega), hR5.to (Imm.same s6), hT, hc, fun v2 l2 H7 h7 hL7 G7 => ?_⟩
        rw [← eF] at h7
        refine ⟨m * k0, v2, rfl, rfl, .inl hm2.lt, tot, _, rfl, rfl, n, Nat.lt_succ_self n, less sz w0, tot + m * k0 * v2, m * k0, l2, f1, ls.1, f2, rfl, fun z => ?_, hL7, G6.trans G7, hm2⟩
        obtain ⟨rfl, e5⟩ := h7 z
        exact ⟨V0 + (1 + (F (less sz w0)).2), by omega, by omega, by omega⟩
      · have n0 : ¬ 0 ≤ ni := of_decide_eq_false (Bool.eq_false_iff.mpr c)
        exact ⟨_, rfl, q1 tot ni H3 (fun z => absurd z n0) hL3 G3⟩
    · have e0 : sz = 0 := by
        have := of_decide_eq_false (Bool.eq_false_iff.mpr c)
        omega
      refine ⟨_, rfl, q1 tot ni H3 (fun z => ?_) hL3 G3⟩
      obtain ⟨V0, e1, e2, e3⟩ := hn z
      have er : agR F k0 w0 n m sz = (0, 0) := by
        cases n with
        | zero => rfl
        | succ n => exact if_pos e0
      rw [er] at e2 e3
      dsimp only at e2 e3 ⊢
      exact ⟨by omega, by omega⟩
end
end K08

set_option Elab.async false
set_option linter.all false
set_option maxRecDepth 100000
set_option maxHeartbeats 4000000
namespace K08
open PySem PySem.Spec PyProof.Rows L2 OG
open C8 (pss_cut pe_gc)

section
variable {P : Program} {w : World} {K : PySem.W.Frag} {mg : Str → Option Value} {base : Heap}
theorem fn_no {f : Addr} {fd : FuncData} {k : Nat} {ps : List Str} : FnOk P w K mg base CX0 k f fd ps (fun _ _ _ _ => False) :=
  ⟨fun _ _ _ _ h => h.elim, fun _ _ _ _ _ _ _ _ _ _ _ _ _ h => h.elim⟩
theorem ok_lw0 (T : Tops w K mg) : FnOk P w K mg base CX0 1 T.fl_walk T.dl_walk ["_law_plans", "_law_name", "_law_size", "_law_left"] (spLPs 0) := by
  refine T.Fl_walk.ok (k := 0) scl_walk (fun vs H Q E h => ?_) (fun cdv A outer s H vs Q E hr h => ?_)
  · obtain ⟨pd, L, l, Pl, x, s, rfl, _⟩ := h
    rfl
  obtain ⟨pd, L, l, Pl, x, s, rfl, _, _, hk, _⟩ := h
  exact hk.elim
theorem ok_lbody_all (T : Tops w K mg) (d k : Nat) (Gw : FnOk P w K mg base CX0 k T.fl_walk T.dl_walk ["_law_plans", "_law_name", "_law_size", "_law_left"] (spLPs d)) (hk : 1 ≤ k) : ∀ n : Nat, FnOk P w K mg base CX0 (k + 2 + 2 * n) T.fl_walk_body T.dl_walk_body ["_law_plans", "_law_body", "_law_names", "_law_left"] (spLBs n d)
  | 0 => ok_l_body T 0 d (k + 1) (ok_l_thing T 0 d k k 1 Gw fn_no (by omega) (by omega) (by omega))
  | n + 1 => ok_l_body T (n + 1) d (k + 2 + 2 * n + 1) (ok_l_thing T (n + 1) d (k + 2 + 2 * n) k (k + 2 + 2 * n) Gw (ok_lbody_all T d k Gw hk n) (by omega) (by omega) (by omega))
theorem ok_lwalk_all (T : Tops w K mg) : ∀ d : Nat, FnOk P w K mg base CX0 (1 + 11 * d) T.fl_walk T.dl_walk ["_law_plans", "_law_name", "_law_size", "_law_left"] (spLPs d)
  | 0 => ok_lw0 T
  | d + 1 => ok_l_walk T d (1 + 11 * d + 10) (ok_l_way T) (ok_lbody_all T d _ (ok_lwalk_all T d) (by omega) 4) (by omega)
end
end K08

set_option Elab.async false
set_option linter.all false
set_option maxRecDepth 100000
set_option maxHeartbeats 4000000
namespace K08
open PySem PySem.Spec PyProof.Rows L2 OG
open C8 (pss_cut pe_gc)

section
variable {P : Program} {w : World} {K : PySem.W.Frag} {mg : Str → Option Value} {base : Heap}
def spPlain : Sp := fun vs H Q _ => ∃ (v : V) (ts : List Thing) (C : Str → Prop) (A : Prop) (sc : List Str) (n : Nat), vs = [v] ∧ Rp H v (.tup (encs ts)) ∧ TsOk C A sc n ts ∧ ScOk sc ∧ n ≤ 20 ∧ cntB ts ≤ 1000 ∧ ∀ b H', Same H H' → Q (.bl b) H'
theorem ok_l_plain (T : Tops w K mg) : FnOk P w K mg base CX0 2 T.fl_plain T.dl_plain ["_law_plan"] spPlain := by
  have Gl_way : FnOk P w K mg base CX0 1 T.fl_way T.dl_way ["_law_plan"] spWay := ok_l_way T
  refine T.Fl_plain.ok (k := 1) scl_plain (fun vs H Q E h => ?_) (fun cdv A outer s H vs Q E hr h => ?_)
  · obtain ⟨v, ts, C, A', sc, n, rfl, _⟩ := h
    rfl
  obtain ⟨v, ts, C, A', sc, n, rfl, hR, hT, hs, hn, hc, q⟩ := h
  refine ⟨_, (pss_cons (ps_set (i := 1) scl_plain.nd rfl (Or.inl rfl) (pe_call Gl_way (hr.mono (by omega)) (by rfl) T.gl_way T.Fl_way.kp T.bl_way .nil pass0 (pa_cons (pv 0) pa_nil)))
 (pss_one (ps_ret (pe_or (pe_cmpR op_isN (pv 1) pe_non (nomark _)) (pe_one (pe_cmpR op_eq (pe_ix ix_tup (pv 1) pe_int (fun _ _ => rfl)) pe_str (nomark _))))))), ?_⟩
  refine ⟨_, rfl, v, ts, C, A', sc, n, rfl, hR, hT, hs, hn, hc, fun u H1 s1 hu => ?_⟩
  cases hw : wayOf ts with
  | none =>
    rw [hw] at hu
    have hu2 : u = .non := hu
    subst hu2
    exact ⟨_, rfl, rfl, _, rfl, iteT (q _ _ s1)⟩
  | some kw =>
    rw [hw] at hu
    obtain ⟨a, rfl, ha⟩ := hu
    exact ⟨_, rfl, rfl, _, rfl, iteF ⟨_, rfl, a, _, 2, _, rfl, rfl, SqT.of ha, atI_nat (j := 2) rfl, rfl, q _ _ s1⟩⟩
end
end K08

set_option Elab.async false
set_option linter.all false
set_option maxRecDepth 100000
set_option maxHeartbeats 4000000
namespace K08
open PySem PySem.Spec PyProof.Rows L2 OG
open C8 (pss_cut pe_gc)

section
variable {P : Program} {w : World} {K : PySem.W.Frag} {mg : Str → Option Value} {base : Heap}
theorem ok_weight (T : Tops w K mg) (d k : Nat) (Gl_weight_in : FnOk P w K mg base CX0 k T.fl_weight_in T.dl_weight_in ["_law_plan", "_law_plans"] (spWt 4 d)) (hk : 1 ≤ k) : FnOk P w K mg base CX0 (k + 1) T.fl_weight T.dl_weight ["_law_plan", "_law_plans"] (spChain d) := by
  have Gl_way : FnOk P w K mg base CX0 1 T.fl_way T.dl_way ["_law_plan"] spWay := ok_l_way T
  refine T.Fl_weight.ok (k := k) scl_weight (fun vs H Q E h => ?_) (fun cdv A outer s H vs Q E hr h => ?_)
  · obtain ⟨v, pd, Pl, ts, rfl, _⟩ := h
    rfl
  obtain ⟨v, pd, Pl, ts, rfl, hP, hR, hT, hc, q⟩ := h
  refine ⟨_, (pss_cons (ps_set (i := 2) scl_weight.nd rfl (Or.inl rfl) (pe_call Gl_way (hr.mono (by omega)) (by rfl) T.gl_way T.Fl_way.kp T.bl_way .nil pass0 (pa_cons (pv 0) pa_nil)))
 (pss_one (ps_ret (pe_op op_add (pe_call Gl_weight_in (hr.mono (by omega)) (by rfl) T.gl_weight_in T.Fl_weight_in.kp T.bl_weight_in .nil pass0 (pa_cons (pv 0) (pa_cons (pv 1) pa_nil))) (pe_callTy call_int1 (by rfl) T.mint (by decide +kernel) (pa_cons (pe_and (pe_cmpR op_notN (pv 2) pe_non (nomark _)) (pe_one (pe_cmpR op_eq (pe_ix ix_tup (pv 2) pe_int (fun _ _ => rfl)) pe_str (nomark _)))) pa_nil)))))), ?_⟩
  refine ⟨_, rfl, v, ts, _, _, _, _, rfl, hR, hT, scOk_n, by decide, hc, fun u H1 s1 hu => ?_⟩
  refine ⟨_, rfl, _, rfl, v, pd, Pl, ts, _, rfl, plat_same hP s1, hR.to (Imm.same s1), hT, hc, fun m H2 s2 => ?_⟩
  cases hw : wayOf ts with
  | none =>
    rw [hw] at hu
    have hu2 : u = .non := hu
    subst hu2
    exact ⟨_, rfl, rfl, _, rfl, iteF (.inr ⟨_, rfl, m, _, rfl, rfl, q _ _ (s1.trans s2)⟩)⟩
  | some kw =>
    rw [hw] at hu
    obtain ⟨a, rfl, ha⟩ := hu
    exact ⟨_, rfl, rfl, _, rfl, iteT ⟨_, rfl, a, _, 2, _, rfl, rfl, SqT.of (s2 _ _ ha), atI_nat (j := 2) rfl, rfl, .inr ⟨_, rfl, m, _, rfl, rfl, q _ _ (s1.trans s2)⟩⟩⟩
theorem ok_wt_body (T : Tops w K mg) (d k : Nat) (Gw : FnOk P w K mg base CX0 k T.fl_weight T.dl_weight ["_law_plan", "_law_plans"] (prevCh d)) (hk : 1 ≤ k) : ∀ n : Nat, FnOk P w K mg base CX0 (k + 1 + n) T.fl_weight_in T.dl_weight_in ["_law_plan", "_law_plans"] (spWt n d)
  | 0 => ok_wt_in T 0 d k k 1 Gw fn_no8 hk (by omega) (by omega)
  | n + 1 => ok_wt_in T (n + 1) d (k + 1 + n) k (k + 1 + n) Gw (ok_wt_body T d k Gw hk n) (by omega) (by omega) (by omega)
theorem ok_wt_all (T : Tops w K mg) : ∀ d : Nat, FnOk P w K mg base CX0 (7 + 6 * d) T.fl_weight T.dl_weight ["_law_plan", "_law_plans"] (spChain d)
  | 0 => ok_weight T 0 6 (ok_wt_body T 0 1 fn_no8 (by omega) 4) (by omega)
  | d + 1 => by
    have := ok_weight T (d + 1) (7 + 6 * d + 1 + 4) (ok_wt_body T (d + 1) (7 + 6 * d) (ok_wt_all T d) (by omega) 4) (by omega)
    rw [show 7 + 6 * (d + 1) = 7 + 6 * d + 1 + 4 + 1 by omega]
    exact this
end
end K08

set_option Elab.async false
set_option linter.all false
set_option maxRecDepth 100000
set_option maxHeartbeats 4000000
namespace K08
open PySem PySem.Spec PyProof.Rows L2 OG
open C8 (pss_cut pe_gc)

section
variable {P : Program} {w : World} {K : PySem.W.Frag} {mg : Str → Option Value} {base : Heap}
theorem fn_ex {ι : Type} {f : Addr} {fd : FuncData} {k : Nat} {ps : List Str} {sp : ι → Sp} (h : ∀ i, FnOk P w K mg base CX0 k f fd ps (sp i)) : FnOk P w K mg base CX0 k f fd ps (fun vs H Q E => ∃ i, sp i vs H Q E) :=
  ⟨fun vs H Q E ⟨i, hi⟩ => (h i).len vs H Q E hi, fun A outer s H args us vs Q E hr he hb hv ⟨i, hi⟩ => (h i).run A outer s H args us vs Q E hr he hb hv hi⟩
structure Kit where
  kvs : List (Key × V)
  ks : List Str
  C : Str → Prop
def spMore : Sp := fun vs H Q _ => ∃ (d L pd : Addr) (ps : PL) (r : Nat) (fig wide : Bool), vs = [.ref d, .ref pd, .int r, .bl fig, .bl wide] ∧ Dr H d L ∧ PsAt H pd ps ∧ PsOk ps ∧ ps.length ≤ 2 ∧ pd ≠ d ∧ 1 ≤ r ∧ r ≤ 100 ∧
  ∀ (v : V) (ts : List Thing) (H' : Hp), ts ≠ [] → Rp H' v (.tup (encs ts)) → TsOk (fun y => y ∈ nms ps) False ["n"] 4 ts → cntB ts ≤ r → Dr H' d L → Go (· = d) H H' → Q v H'
theorem psv_at {H : Hp} : ∀ {ps : PL} {kvs : List (Key × V)} {i : Nat} {k : Key} {v : V}, PsV H kvs ps → kvs[i]? = some (k, v) → ∃ x ts, ps[i]? = some (x, ts) ∧ k = .inr x ∧ Rp H v (.tup (encs ts))
  | [], _, i, k, v, h, e => by
    rw [show _ = [] from h] at e
    simp at e
  | p :: r, _, 0, k, v, h, e => by
    obtain ⟨u, l, rfl, h1, h2⟩ := h
    cases e
    exact ⟨p.1, p.2, rfl, rfl, h1⟩
  | p :: r, _, i + 1, k, v, h, e => by
    obtain ⟨u, l, rfl, h1, h2⟩ := h
    exact psv_at (ps := r) (i := i) h2 e
theorem ok_more (T : Tops w K mg) : FnOk P w K mg base CX0 22 T.fl_more_plan T.dl_more_plan ["_law_draw", "_law_plans", "_law_room", "_law_figures", "_law_wide"] spMore := by
  have Gl_plain : FnOk P w K mg base CX0 2 T.fl_plain T.dl_plain ["_law_plan"] spPlain := ok_l_plain T
  have Gl_figured : FnOk P w K mg base CX0 9 T.fl_figured T.dl_figured ["_law_plan", "_law_plans"] (spFig 2) := ok_fig_all T 2
  have Gl_weight : FnOk P w K mg base CX0 19 T.fl_weight T.dl_weight ["_law_plan", "_law_plans"] (spChain 2) := ok_wt_all T 2
  have Gl_chain : FnOk P w K mg base CX0 10 T.fl_chain T.dl_chain ["_law_plan", "_law_plans"] (spChain 2) := ok_chain_all T 2
  have Gl_drawn_body : FnOk P w K mg base CX0 14 T.fl_drawn_body T.dl_drawn_body ["_law_draw", "_law_kit", "_law_scope", "_law_deep"] (fun vs H Q E => ∃ c : Kit, spDrawBodyC c.kvs c.ks c.C 4 vs H Q E) := fn_ex fun c => ok_drawing T c.kvs c.ks c.C 4
  refine T.Fl_more_plan.ok (k := 21) scl_more_plan (fun vs H Q E h => ?_) (fun cdv A outer s H vs Q E hr h => ?_)
  · obtain ⟨d, L, pd, ps, r, fig, wide, rfl, _⟩ := h
    rfl
  obtain ⟨d, L, pd, ps, r, fig, wide, rfl, hD, hPs, hok, hlen, npd, r1, r2, q⟩ := h
  refine ⟨_, (pss_cons (ps_set (i := 5) scl_more_plan.nd rfl (Or.inl rfl) pe_dnewK)
 (pss_cons (ps_lock (ps_for PassesOwn.never rfl (pi_keys (pv 1)) (pg_name (i := 6) scl_more_plan.nd rfl (Or.inl rfl))
  (pss_one (ps_if (pt_val (pe_call Gl_plain (hr.mono (by omega)) (by rfl) T.gl_plain T.Fl_plain.kp T.bl_plain .nil pass0 (pa_cons (pe_dget (hu_of hr) (pv 1) (pv 6) (fun _ _ => rfl)) pa_nil)))
  (pss_cons (ps_set (i := 7) scl_more_plan.nd rfl (Or.inl rfl) (pe_dget (hu_of hr) (pv 1) (pv 6) (fun _ _ => rfl)))
 (pss_one (ps_dput (hu_of hr) (pv 5) (pv 6) (pe_tup (pa_cons (pe_call Gl_figured (hr.mono (by omega)) (by rfl) T.gl_figured T.Fl_figured.kp T.bl_figured .nil pass0 (pa_cons (pv 7) (pa_cons (pv 1) pa_nil))) (pa_cons (pe_call Gl_weight (hr.mono (by omega)) (by rfl) T.gl_weight T.Fl_weight.kp T.bl_weight .nil pass0 (pa_cons (pv 7) (pa_cons (pv 1) pa_nil))) (pa_cons (pe_call Gl_chain (hr.mono (by omega)) (by rfl) T.gl_chain T.Fl_chain.kp T.bl_chain .nil pass0 (pa_cons (pv 7) (pa_cons (pv 1) pa_nil))) pa_nil)))) rfl)))
  pss_nil))))
 (pss_one (ps_ret (pe_call Gl_drawn_body (hr.mono (by omega)) (by rfl) T.gl_drawn_body T.Fl_drawn_body.kp T.bl_drawn_body .nil pass0 (pa_cons (pv 0) (pa_cons (pe_lst (pa_cons (pv 2) (pa_cons (pv 5) (pa_cons (pv 3) (pa_cons (pv 4) pa_nil))))) (pa_cons (pe_lst (pa_cons pe_str pa_nil)) (pa_cons pe_int pa_nil))))))))), ?_⟩
  intro kd nkd
  obtain ⟨kvs, hp, hV⟩ := id hPs
  have hkp : kd ≠ pd := (ne_of_none hp nkd).symm
  have s0 := same_new (o := .dK []) nkd
  refine ⟨pd, .dK kvs, s0 _ _ hp, trivial, fun od => ?_⟩
  refine ⟨_, rfl, pd, od, rfl, .inl ⟨kvs, upd_same, ?_⟩⟩
  have h0kd : (upd (upd H kd (.dK [])) pd (.frz od (.dK kvs))) kd = some (.dK []) := by
    rw [upd_ne hkp]
    exact upd_same
  have im0 : Imm H (upd (upd H kd (.dK [])) pd (.frz od (.dK kvs))) := ((Imm.refl H).upd (fun xs e => by rw [nkd] at e; cases e)).upd (fun xs e => by rw [hp] at e; cases e)
  have hnd := psok_nd hok
  have hlk := hV.len
  have rks : ∀ x ts, plOf ps x = some ts → TsOk (Rk (plOf ps) 2) True ["n"] 4 ts ∧ cntB ts ≤ 100 := fun x ts e => ⟨tsok_mono (fun y hy => rk_le hlen hy) id ts _ _ (psok_ts hok x ts e).1, (psok_ts hok x ts e).2⟩
  refine for_it walk_keys (fun i σ H' => (∃ x6 x7, σ = [some (.ref d), some (.ref pd), some (.int r), some (.bl fig), some (.bl wide), some (.ref kd), x6, x7]) ∧ Go (· = kd) (upd (upd H kd (.dK [])) pd (.frz od (.dK kvs))) H' ∧ ∃ (kv2 : List (Key × V)) (ks2 : List Str), H' kd = some (.dK kv2) ∧ KitV H' kv2 ks2 (fun y => y ∈ nms ps) ∧ (∀ x ∈ ks2, x ∈ (nms ps).take i) ∧ kv2.length ≤ i)
    ⟨⟨_, _, rfl⟩, Go.refl _ _, [], [], h0kd, ⟨rfl, (by decide), fun x hx => by cases hx⟩, (fun x hx => by cases hx), Nat.le_refl _⟩ (fun i σ H' _ hP => hP.2.1.at upd_same hkp.symm) (fun i x σ H' H'' hi hP hY => ?_) (fun σ H' hP => ?_)
  · obtain ⟨rfl, k, v, hkv, rfl⟩ := hY
    obtain ⟨⟨x6, x7, rfl⟩, G1, kv2, ks2, hk2, hK2, hin, hkl⟩ := hP
    obtain ⟨x, ts, hx, rfl, hRv⟩ := psv_at (hV.to (im0.trans G1.im)) hkv
    have hxn : (nms ps)[i]? = some x := by
      unfold nms
      rw [List.getElem?_map, hx]
      rfl
    have hxm : x ∈ nms ps := List.mem_of_getElem? hxn
    have hfz : H'' pd = some (.frz od (.dK kvs)) := G1.at upd_same hkp.symm
    have hpl : PlAt H'' pd (plOf ps) := ⟨kvs, .inr ⟨od, hfz⟩, fun y us hy => (hV.to (im0.trans G1.im)).val hy⟩
    obtain ⟨us, hus, _⟩ := plOf_mem hxm
    obtain ⟨vx, hvx, hRx⟩ := (hV.to (im0.trans G1.im)).val hus
    obtain ⟨hTx, hcx⟩ := rks x us hus
    have gd : DGet H'' pd (.str x) (some vx) := by
      have g := rd_get (k := .inr x) (.inr ⟨od, hfz⟩ : Rd H'' pd (.dK kvs))
      rw [hvx] at g
      exact g
    refine ⟨_, rfl, _, rfl, pd, _, rfl, gd, vx, us, _, _, _, _, rfl, hRx, hTx, scOk_n, by decide, by omega, fun b H2 s2 => ?_⟩
    have gd2 : DGet H2 pd (.str x) (some vx) := by
      have g := rd_get (k := .inr x) (.inr ⟨od, s2 _ _ hfz⟩ : Rd H2 pd (.dK kvs))
      rw [hvx] at g
      exact g
    refine ⟨b, rfl, ite2 (fun c => ?_) (fun c => ?_)⟩
    · refine ⟨_, rfl, _, rfl, pd, _, rfl, gd2, ?_⟩
      refine ⟨_, rfl, _, rfl, vx, pd, plOf ps, us, rfl, plat_same hpl s2, hRx.to (Imm.same s2), hTx, by omega, fun g H3 s3 => ?_⟩
      have s23 := s2.trans s3
      refine ⟨_, rfl, _, rfl, vx, pd, plOf ps, us, rfl, plat_same hpl s23, hRx.to (Imm.same s23), hTx, by omega, fun a H4 s4 => ?_⟩
      have s24 := s23.trans s4
      refine ⟨_, rfl, _, rfl, vx, pd, plOf ps, us, rfl, plat_same hpl s24, hRx.to (Imm.same s24), hTx, by omega, fun c2 H5 s5 => ?_⟩
      have s25 := s24.trans s5
      refine ⟨(by show 3 ≤ sizeLine; decide), fun b2 nb2 => ?_⟩
      have s6 := s25.trans (same_new (o := .tup [.bl g, .int a, .int c2]) nb2)
      have hk6 := s6 _ _ hk2
      refine ⟨_, rfl, _, rfl, kd, _, rfl, DPut.k (k := .inr x) hk6 (szl (by omega)), ?_⟩
      have hxk : x ∉ ks2 := fun z => by
        obtain ⟨j, hj, e⟩ := List.mem_take_iff_getElem.mp (hin x z)
        have hi2 : i < (nms ps).length := (List.getElem?_eq_some_iff.mp hxn).1
        have e2 : (nms ps)[i] = x := (List.getElem?_eq_some_iff.mp hxn).2
        have hj2 : j < (nms ps).length := by omega
        have := (List.getElem_inj (h₀ := hj2) (h₁ := hi2) hnd).mp (e.trans e2.symm)
        omega
      have hvn : valV kv2 (.inr x : Key) = none := by
        cases hv : valV kv2 (.inr x : Key) with
        | none => rfl
        | some y =>
          have m := valV_in hv
          rw [hK2.1] at m
          obtain ⟨z, hz, ez⟩ := List.mem_map.mp m
          exact absurd (Sum.inr.inj ez ▸ hz) hxk
      have im6 : Imm (upd H5 b2 (.tup [.bl g, .int a, .int c2])) (upd (upd H5 b2 (.tup [.bl g, .int a, .int c2])) kd (.dK (putK kv2 (.inr x) (.ref b2)))) := (Imm.refl _).upd (fun xs e => by rw [hk6] at e; cases e)
      have nb : b2 ≠ kd := (ne_of_none (s25 _ _ hk2) nb2).symm
      refine ⟨⟨_, _, rfl⟩, ⟨(G1.trans (Go.same s6)).sx.upd_in rfl, (G1.im.trans (Imm.same s6)).trans im6⟩, putK kv2 (.inr x) (.ref b2), ks2 ++ [x], upd_same, ⟨?_, ?_, fun y hy => ?_⟩, fun y hy => ?_, ?_⟩
      · rw [putK_new _ hvn, List.map_append, hK2.1, List.map_append]
        rfl
      · have e := congrArg List.length hK2.1
        rw [List.length_map, List.length_map] at e
        rw [List.length_append]
        show ks2.length + 1 < 60
        have hi3 : i < kvs.length := hi
        have := hV.len
        omega
      · rcases List.mem_append.mp hy with hy | hy
        · obtain ⟨e1, e2, b, g', a', c', e3, e4⟩ := hK2.2.2 y hy
          refine ⟨e1, e2, b, g', a', c', ?_, im6 _ _ (s6 _ _ e4)⟩
          rw [valV_put, if_neg (fun z => hxk (by rw [← Sum.inr.inj z]; exact hy))]
          exact e3
        · rw [List.mem_singleton.mp hy]
          refine ⟨psok_names hok x hxm, hxm, b2, g, a, c2, ?_, ?_⟩
          · rw [valV_put, if_pos rfl]
          · rw [upd_ne nb]
            exact upd_same
      · rw [List.take_add_one, hxn]
        rcases List.mem_append.mp hy with hy | hy
        · exact List.mem_append_left _ (hin y hy)
        · rw [List.mem_singleton.mp hy]
          exact List.mem_append_right _ List.mem_cons_self
      · have := length_putK kv2 (.inr x : Key) (.ref b2)
        omega
    · exact ⟨⟨_, _, rfl⟩, G1.trans (Go.same s2), kv2, ks2, s2 _ _ hk2, hK2.to (Imm.same s2), fun y hy => by rw [List.take_add_one]; exact List.mem_append_left _ (hin y hy), by omega⟩
  · obtain ⟨⟨x6, x7, rfl⟩, G1, kv2, ks2, hk2, hK2, hin, hkl⟩ := hP
    refine ⟨G1.at upd_same hkp.symm, ?_⟩
    have hfz : H' pd = some (.frz od (.dK kvs)) := G1.at upd_same hkp.symm
    -- the dict is unlocked
    have GA : Go (· = d) H (upd H' pd (.dK kvs)) := by
      refine ⟨fun b u nb e => ?_, fun b xs e => ?_⟩
      · by_cases c : b = pd
        · rw [c, upd_same]
          rw [c, hp] at e
          exact e
        · rw [upd_ne c]
          have nk : b ≠ kd := ne_of_none e nkd
          refine G1.at ?_ nk
          rw [upd_ne c, upd_ne nk]
          exact e
      · have c : b ≠ pd := fun z => by
          rw [z, hp] at e
          cases e
        rw [upd_ne c]
        exact (im0.trans G1.im) b xs e
    have hDA : Dr (upd H' pd (.dK kvs)) d L := by
      obtain ⟨ns, i0, r0, sd, hd, hL, qq⟩ := hD
      have f : ∀ b u, H b = some u → b ≠ pd → (upd H' pd (.dK kvs)) b = some u := fun b u e c => by
        rw [upd_ne c]
        have nk : b ≠ kd := ne_of_none e nkd
        refine G1.at ?_ nk
        rw [upd_ne c, upd_ne nk]
        exact e
      exact ⟨ns, i0, r0, sd, f _ _ hd npd.symm, f _ _ hL (ne_of hL hp (fun z => by cases z)), qq⟩
    have hkA : (upd H' pd (.dK kvs)) kd = some (.dK kv2) := by
      rw [upd_ne hkp]
      exact hk2
    have imA : Imm H' (upd H' pd (.dK kvs)) := (Imm.refl H').upd (fun xs e => by rw [hfz] at e; cases e)
    have hKA := hK2.to imA
    refine ⟨_, rfl, _, rfl, _, rfl, _, rfl, _, rfl, (by show 4 ≤ sizeLine; decide), fun k nk => ?_⟩
    have sB := same_new (o := .lst [.int r, .ref kd, .bl fig, .bl wide]) nk
    refine ⟨(by show 1 ≤ sizeLine; decide), fun sc nsc => ?_⟩
    have sC := same_new (o := .lst [.str "n"]) nsc
    have sBC := sB.trans sC
    have hDB := hDA.same sB
    have nkk := hDA.neNew nk
    have nss := hDB.neNew nsc
    have nsk : sc ≠ k := (ne_of_none (upd_same : (upd (upd H' pd (.dK kvs)) k (.lst [.int r, .ref kd, .bl fig, .bl wide])) k = _) nsc).symm
    refine ⟨⟨kv2, ks2, fun y => y ∈ nms ps⟩, d, L, k, kd, sc, r, fig, wide, ["n"], rfl, hDA.same sBC, ⟨sC _ _ upd_same, sBC _ _ hkA⟩, nkk.1, nkk.2, r1, r2, upd_same, nss.1, nsk, ⟨scOk_n, List.mem_cons_self, hKA.to (Imm.same sBC)⟩, by simp, by decide, fun v c r' H7 hp7 ec hD7 hK7 G7 => ?_⟩
    obtain ⟨ts, hts, hR, hT, hc⟩ := hp7
    have nkH : H k = none := GA.free nk nkk.1
    refine q v ts H7 hts hR hT (by omega) hD7 ?_
    refine ⟨fun b u nb e => ?_, fun b xs e => G7.im _ _ (Imm.same sBC _ _ (GA.im _ _ e))⟩
    exact G7.sx b u (fun z => z.elim nb (ne_of_none e nkH)) (sBC _ _ (GA.sx b u nb e))
end
end K08

set_option Elab.async false
set_option linter.all false
set_option maxRecDepth 100000
set_option maxHeartbeats 4000000
namespace K08
open PySem PySem.Spec PyProof.Rows L2 OG
open C8 (pss_cut pe_gc)

section
variable {P : Program} {w : World} {K : PySem.W.Frag} {mg : Str → Option Value} {base : Heap}
def spPlans : Sp := fun vs H Q _ => ∃ (d L : Addr) (u : Int) (fig wide : Bool), vs = [.ref d, .int u, .bl fig, .bl wide] ∧ Dr H d L ∧ 1 ≤ u ∧ u ≤ 3 ∧
  ∀ (pd : Addr) (ps : PL) (H' : Hp), H pd = none → pd ≠ d → PsAt H' pd ps → PsOk ps → ps ≠ [] → ps.length ≤ 3 → Dr H' d L → Go (· = d) H H' → Q (.ref pd) H'
theorem keys_strs {kvs : List (Key × V)} {ns : List Str} (h : kvs.map (·.1) = ns.map Sum.inr) : (kvs.map fun kv => kV kv.1) = ns.map V.str := by
  have e : (kvs.map fun kv => kV kv.1) = (kvs.map (·.1)).map kV := by
    rw [List.map_map]
    rfl
  rw [e, h, List.map_map]
  rfl
theorem ok_plans (T : Tops w K mg) : FnOk P w K mg base CX0 23 T.fl_drawn_plans T.dl_drawn_plans ["_law_draw", "_law_upto", "_law_figures", "_law_wide"] spPlans := by
  have Gl_take : FnOk P w K mg base CX0 1 T.fl_take T.dl_take ["_law_draw", "_law_sides"] spTake := ok_take T
  have Gl_fresh : FnOk P w K mg base CX0 3 T.fl_fresh T.dl_fresh ["_law_draw", "_law_taken"] spFresh := ok_fresh T
  have Gl_more_plan : FnOk P w K mg base CX0 22 T.fl_more_plan T.dl_more_plan ["_law_draw", "_law_plans", "_law_room", "_law_figures", "_law_wide"] spMore := ok_more T
  refine T.Fl_drawn_plans.ok (k := 22) scl_drawn_plans (fun vs H Q E h => ?_) (fun cdv A outer s H vs Q E hr h => ?_)
  · obtain ⟨d, L, u, fig, wide, rfl, _⟩ := h
    rfl
  obtain ⟨d, L, u, fig, wide, rfl, hD, u1, u2, q⟩ := h
  refine ⟨_, (pss_cons (ps_set (i := 4) scl_drawn_plans.nd rfl (Or.inl rfl) pe_dnewK)
 (pss_cons (ps_for PassesOwn.never rfl (pi_range1 (by rfl) T.mrange (pa_cons (pe_op op_add pe_int (pe_call Gl_take (hr.mono (by omega)) (by rfl) T.gl_take T.Fl_take.kp T.bl_take .nil pass0 (pa_cons (pv 0) (pa_cons (pv 1) pa_nil)))) pa_nil)) (pg_name (i := 5) scl_drawn_plans.nd rfl (Or.inl rfl))
  (pss_cons (ps_set (i := 6) scl_drawn_plans.nd rfl (Or.inl rfl) (pe_call Gl_fresh (hr.mono (by omega)) (by rfl) T.gl_fresh T.Fl_fresh.kp T.bl_fresh .nil pass0 (pa_cons (pv 0) (pa_cons (pe_callTy (call_list_dK rfl) (by rfl) T.mlist (by decide +kernel) (pa_cons (pv 4) pa_nil)) pa_nil))))
 (pss_one (ps_dput (hu_of hr) (pv 4) (pv 6) (pe_call Gl_more_plan (hr.mono (by omega)) (by rfl) T.gl_more_plan T.Fl_more_plan.kp T.bl_more_plan .nil pass0 (pa_cons (pv 0) (pa_cons (pv 4) (pa_cons (pe_op op_add pe_int (pe_call Gl_take (hr.mono (by omega)) (by rfl) T.gl_take T.Fl_take.kp T.bl_take .nil pass0 (pa_cons (pv 0) (pa_cons pe_int pa_nil)))) (pa_cons (pv 2) (pa_cons (pv 3) pa_nil)))))) rfl))))
 (pss_one (ps_ret (pv 4))))), ?_⟩
  intro pd npd
  have nn := hD.neNew npd
  have hD0 := hD.new (o := .dK []) npd
  refine ⟨_, rfl, _, rfl, d, L, u, rfl, hD0, u1, by omega, fun g H1 g0 g1 hD1 hB1 => ?_⟩
  have G1 : Go (· = d) H H1 := (Go.same (same_new npd)).trans (Go.but hD0 hB1 rfl)
  have hp1 : H1 pd = some (.dK []) := by
    rw [hB1 pd nn.1]
    exact upd_same
  refine ⟨1, g, rfl, rfl, 1 + g, rfl, by omega, by omega, ?_⟩
  refine for_range (lo := 0) (n := (1 + g).toNat) (fun i σ H' => (∃ x5 x6, σ = [some (.ref d), some (.int u), some (.bl fig), some (.bl wide), some (.ref pd), x5, x6]) ∧ ∃ ps : PL, ps.length = i ∧ PsAt H' pd ps ∧ PsOk ps ∧ Dr H' d L ∧ Go (· = d) H H') ⟨⟨_, _, rfl⟩, [], rfl, ⟨[], hp1, rfl⟩, .nil, hD1, G1⟩ (fun i σ H2 hi hP => ?_) (fun σ H2 hP => ?_)
  · obtain ⟨⟨x5, x6, rfl⟩, ps, hl, ⟨kvs, hp, hV⟩, hok, hD2, G2⟩ := hP
    have hi3 : i < 3 := by omega
    refine ⟨_, rfl, _, rfl, pd, kvs, rfl, hp, fun l nl => ?_⟩
    rw [keys_strs hV.keys]
    have sl := same_new (o := .lst ((nms ps).map V.str)) nl
    have hD3 := hD2.same sl
    have nld := hD2.neNew nl
    refine ⟨d, L, l, nms ps, rfl, hD3, upd_same, nld.1, by unfold nms; rw [List.length_map]; omega, fun x H4 hx hxn hD4 G34 => ?_⟩
    have G4 := (G2.trans (Go.same sl)).trans G34
    have hps2 : PsAt H2 pd ps := ⟨kvs, hp, hV⟩
    have hps4 : PsAt H4 pd ps := (hps2.same sl).to G34 nn.1
    refine ⟨_, rfl, _, rfl, _, rfl, d, L, 7, rfl, hD4, by decide, by decide, fun g5 H5 g50 g51 hD5 hB5 => ?_⟩
    have G45 : Go (· = d) H4 H5 := Go.but hD4 hB5 rfl
    have hps5 := hps4.to G45 nn.1
    have er : (3 : Int) + g5 = (((3 + g5).toNat : Nat) : Int) := by omega
    refine ⟨3, g5, rfl, rfl, _, rfl, _, rfl, d, L, pd, ps, (3 + g5).toNat, fig, wide, by rw [← er]; rfl, hD5, hps5, hok, by omega, nn.1, by omega, by omega, fun v ts H6 hts hR hT hc hD6 G56 => ?_⟩
    have G6 := (G4.trans G45).trans G56
    obtain ⟨kv6, hp6, hV6⟩ := hps5.to G56 nn.1
    have hlv := hV6.len
    refine ⟨_, rfl, _, rfl, pd, _, rfl, DPut.k (k := .inr x) hp6 (szl (by omega)), ?_⟩
    have hvn : valV kv6 (.inr x : Key) = none := by
      cases hv : valV kv6 (.inr x : Key) with
      | none => rfl
      | some y =>
        have m := valV_in hv
        rw [hV6.keys] at m
        obtain ⟨z, hz, ez⟩ := List.mem_map.mp m
        exact absurd (Sum.inr.inj ez ▸ hz) hxn
    have im : Imm H6 (upd H6 pd (.dK (putK kv6 (.inr x) v))) := (Imm.refl H6).upd (fun xs e => by rw [hp6] at e; cases e)
    refine ⟨⟨_, _, rfl⟩, ps ++ [(x, ts)], by rw [List.length_append, hl]; rfl, ⟨_, upd_same, ?_⟩, .snoc hok hx hxn hts hT (by omega), hD6.upd nn.1 nn.2, G6.own npd⟩
    have pv := PsV.snoc (x := x) (hR.to im) (hV6.to im)
    rw [← putK_new _ hvn] at pv
    exact pv
  · obtain ⟨⟨x5, x6, rfl⟩, ps, hl, hps, hok, hD2, G2⟩ := hP
    refine ⟨_, rfl, q pd ps H2 npd nn.1 hps hok (fun e => ?_) (by omega) hD2 G2⟩
    rw [e] at hl
    have : (0 : Nat) = (1 + g).toNat := hl
    omega
def spWithWay : Sp := fun vs H Q _ => ∃ (d L pd : Addr) (qs : PL) (x : Str) (ts : List Thing), vs = [.ref d, .ref pd] ∧ Dr H d L ∧ PsAt H pd (qs ++ [(x, ts)]) ∧ PsOk (qs ++ [(x, ts)]) ∧ x ∉ nms qs ∧ qs.length ≤ 2 ∧ pd ≠ d ∧
  ∀ (i : Nat) (k : Int) (w : Str) (H' : Hp), AgOk k w → (w = "less" → k = 1) → PsAt H' pd (qs ++ [(x, ts.take i ++ .again k w :: ts.drop i)]) → Dr H' d L → Go (fun b => b = d ∨ b = pd) H H' → Q (.str x) H'
theorem ok_with_way (T : Tops w K mg) : FnOk P w K mg base CX0 11 T.fl_with_way T.dl_with_way ["_law_draw", "_law_plans"] spWithWay := by
  have Gl_take : FnOk P w K mg base CX0 1 T.fl_take T.dl_take ["_law_draw", "_law_sides"] spTake := ok_take T
  have Gl_pick : FnOk P w K mg base CX0 2 T.fl_pick T.dl_pick ["_law_draw", "_law_row"] (spPick K) := ok_pick T
  have Gl_figured : FnOk P w K mg base CX0 10 T.fl_figured T.dl_figured ["_law_plan", "_law_plans"] (spFig 3) := ok_fig_all T 3
  refine T.Fl_with_way.ok (k := 10) scl_with_way (fun vs H Q E h => ?_) (fun cdv A outer s H vs Q E hr h => ?_)
  · obtain ⟨d, L, pd, qs, x, ts, rfl, _⟩ := h
    rfl
  obtain ⟨d, L, pd, qs, x, ts, rfl, hD, hPs, hok, hxn, hlen, npd, q⟩ := h
  refine ⟨_, (pss_cons (ps_set (i := 2) scl_with_way.nd rfl (Or.inl rfl) (pe_ix ix_list (pe_callTy (call_list_dK rfl) (by rfl) T.mlist (by decide +kernel) (pa_cons (pv 1) pa_nil)) (pe_un un_neg pe_int) (fun _ _ => rfl)))
 (pss_cons (ps_set (i := 3) scl_with_way.nd rfl (Or.inl rfl) (pe_dget (hu_of hr) (pv 1) (pv 2) (fun _ _ => rfl)))
 (pss_cons (ps_set (i := 4) scl_with_way.nd rfl (Or.inl rfl) (pe_lst (pa_cons (pe_tup (pa_cons pe_str (pa_cons (pe_op op_add pe_int (pe_call Gl_take (hr.mono (by omega)) (by rfl) T.gl_take T.Fl_take.kp T.bl_take .nil pass0 (pa_cons (pv 0) (pa_cons pe_int pa_nil)))) (pa_cons pe_str pa_nil)))) (pa_cons (pe_tup (pa_cons pe_str (pa_cons (pe_op op_add pe_int (pe_call Gl_take (hr.mono (by omega)) (by rfl) T.gl_take T.Fl_take.kp T.bl_take .nil pass0 (pa_cons (pv 0) (pa_cons pe_int pa_nil)))) (pa_cons pe_str pa_nil)))) pa_nil))))
 (pss_cut (ps_if (pt_not (pt_val (pe_call Gl_figured (hr.mono (by omega)) (by rfl) T.gl_figured T.Fl_figured.kp T.bl_figured .nil pass0 (pa_cons (pv 3) (pa_cons (pv 1) pa_nil)))))
  (pss_one (ps_expr (pe_bm PySem.F.plainAttrs_list PySem.F.slot_list_append PySem.F.type_list_append mt_append (pv 4) (pa_cons (pe_tup (pa_cons pe_str (pa_cons pe_int (pa_cons pe_str pa_nil)))) pa_nil))))
  pss_nil)
 (pss_cons (ps_set (i := 5) scl_with_way.nd rfl (Or.inl rfl) (pe_call Gl_take (hr.mono (by omega)) (by rfl) T.gl_take T.Fl_take.kp T.bl_take .nil pass0 (pa_cons (pv 0) (pa_cons (pe_op op_add (pe_callB call_len_seq (by rfl) T.mlen PySem.boot_len (pa_cons (pv 3) pa_nil)) pe_int) pa_nil))))
 (pss_cons (ps_dput (hu_of hr) (pv 1) (pv 2) (pe_op op_catA (pe_op op_catA (pe_slice sl_tupA (pv 3) po_none (po_some (pv 5))) (pe_tup (pa_cons (pe_call Gl_pick (hr.mono (by omega)) (by rfl) T.gl_pick T.Fl_pick.kp T.bl_pick .nil pass0 (pa_cons (pv 0) (pa_cons (pv 4) pa_nil))) pa_nil))) (pe_slice sl_tupA (pv 3) (po_some (pv 5)) po_none)) rfl)
 (pss_one (ps_ret (pv 2))))))))), ?_⟩
  obtain ⟨kvs, hp, hV⟩ := id hPs
  refine ⟨_, rfl, pd, kvs, rfl, hp, fun l nl => ?_⟩
  rw [keys_strs hV.keys, nms_snoc, List.map_append]
  have sl := same_new (o := .lst ((nms qs).map V.str ++ [.str x])) nl
  refine ⟨1, rfl, l, _, -1, _, rfl, rfl, SqL.of upd_same, atI_last _ _, ?_⟩
  have hpl : plOf (qs ++ [(x, ts)]) x = some ts := plOf_new hxn
  obtain ⟨v, hv, hR⟩ := hV.val hpl
  have gd := rd_get (k := .inr x) (.inl (sl _ _ hp) : Rd _ pd (.dK kvs))
  rw [hv] at gd
  have hT3 : TsOk (Rk (plOf (qs ++ [(x, ts)])) 3) True ["n"] 4 ts ∧ cntB ts ≤ 100 := ⟨tsok_mono (fun y hy => rk_le (by rw [List.length_append]; show qs.length + 1 ≤ 3; omega) hy) id ts _ _ (psok_ts hok x ts hpl).1, (psok_ts hok x ts hpl).2⟩
  refine ⟨_, rfl, _, rfl, pd, _, rfl, gd, ?_⟩
  have hD1 := hD.same sl
  -- the ways
  refine ⟨_, rfl, d, L, 9, rfl, hD1, by decide, by decide, fun g1 H2 a1 b1 hD2 hB2 => ?_⟩
  have G2 := (Go.same (M := (· = d)) sl).trans (Go.but hD1 hB2 rfl)
  refine ⟨1, g1, rfl, rfl, (by show 3 ≤ sizeLine; decide), fun t1 nt1 => ?_⟩
  have s2 := same_new (o := .tup [.str "again", .int (1 + g1), .str "halves"]) nt1
  have hD3 := hD2.same s2
  refine ⟨_, rfl, d, L, 9, rfl, hD3, by decide, by decide, fun g2 H3 a2 b2 hD4 hB3 => ?_⟩
  have G3 := (G2.trans (Go.same s2)).trans (Go.but hD3 hB3 rfl)
  refine ⟨1, g2, rfl, rfl, (by show 3 ≤ sizeLine; decide), fun t2 nt2 => ?_⟩
  have s4 := same_new (o := .tup [.str "again", .int (1 + g2), .str "thirds"]) nt2
  have G4 := G3.trans (Go.same s4)
  have hD5 := hD4.same s4
  refine ⟨(by show 2 ≤ sizeLine; decide), fun w nw => ?_⟩
  have s5 := same_new (o := .lst [.ref t1, .ref t2]) nw
  have G5 := G4.trans (Go.same s5)
  have hD6 := hD5.same s5
  have nwd := hD5.neNew nw
  have ht1 : (upd (upd H3 t2 (.tup [.str "again", .int (1 + g2), .str "thirds"])) w (.lst [.ref t1, .ref t2])) t1 = some (.tup [.str "again", .int (1 + g1), .str "halves"]) := s5 _ _ (s4 _ _ (by rw [hB3 t1 (hD2.neNew nt1).1]; exact upd_same))
  have ht2 : (upd (upd H3 t2 (.tup [.str "again", .int (1 + g2), .str "thirds"])) w (.lst [.ref t1, .ref t2])) t2 = some (.tup [.str "again", .int (1 + g2), .str "thirds"]) := s5 _ _ upd_same
  have nwp : w ≠ pd := by
    have := (G4.at hp npd)
    exact (ne_of_none this nw).symm
  have nwH : H w = none := G4.free nw nwd.1
  refine ⟨fun σ' H' => σ' = [some (.ref d), some (.ref pd), some (.str x), some v, some (.ref w), none] ∧ Dr H' d L ∧ Go (· = d) H H' ∧ ∃ us : List V, H' w = some (.lst us) ∧ 0 < us.length ∧ us.length < 10 ∧ ∀ u ∈ us, ∃ (a : Addr) (k : Int) (z : Str), u = .ref a ∧ H' a = some (.tup [.str "again", .int k, .str z]) ∧ AgOk k z ∧ (z = "less" → k = 1), ?_, ?_⟩
  · have two : ∀ {H' : Hp}, Imm (upd (upd H3 t2 (.tup [.str "again", .int (1 + g2), .str "thirds"])) w (.lst [.ref t1, .ref t2])) H' → ∀ u ∈ [V.ref t1, .ref t2], ∃ (a : Addr) (k : Int) (z : Str), u = .ref a ∧ H' a = some (.tup [.str "again", .int k, .str z]) ∧ AgOk k z ∧ (z = "less" → k = 1) := fun {H'} im u hu => by
      rcases List.mem_cons.mp hu with rfl | hu
      · exact ⟨t1, _, _, rfl, im _ _ ht1, ⟨by omega, by omega, .inl rfl⟩, fun z => absurd z (by decide +kernel)⟩
      · rw [List.mem_singleton.mp hu]
        exact ⟨t2, _, _, rfl, im _ _ ht2, ⟨by omega, by omega, .inr (.inl rfl)⟩, fun z => absurd z (by decide +kernel)⟩
    refine ⟨_, rfl, _, rfl, v, pd, _, ts, rfl, (hPs.to G5 npd).pl, hR.to G5.im, hT3.1, by omega, fun b H7 s7 => ?_⟩
    refine ⟨b, rfl, ?_⟩
    have hw7 := s7 _ _ (upd_same : (upd (upd H3 t2 (.tup [.str "again", .int (1 + g2), .str "thirds"])) w (.lst [.ref t1, .ref t2])) w = _)
    cases b with
    | true => exact iteF ⟨rfl, hD6.same s7, G5.trans (Go.same s7), _, hw7, Nat.zero_lt_succ _, (by show 2 < 10; decide), two (Imm.same s7)⟩
    | false =>
      refine iteT ⟨_, rfl, .inl ⟨rfl, _, SqL.of hw7⟩, (by show 3 ≤ sizeLine; decide), fun t3 nt3 => ?_⟩
      have s8 := same_new (o := .tup [.str "again", .int 1, .str "less"]) nt3
      refine ⟨w, _, _, rfl, rfl, s8 _ _ hw7, szl (by show 2 < 100000; decide), ?_⟩
      have im8 : Imm (upd H7 t3 (.tup [.str "again", .int 1, .str "less"])) (upd (upd H7 t3 (.tup [.str "again", .int 1, .str "less"])) w (.lst ([.ref t1, .ref t2] ++ [.ref t3]))) := (Imm.refl _).upd (fun xs e => by rw [s8 _ _ hw7] at e; cases e)
      refine ⟨rfl, ((hD6.same s7).same s8).upd nwd.1 nwd.2, ((G5.trans (Go.same s7)).trans (Go.same s8)).own nwH, _, upd_same, Nat.zero_lt_succ _, (by show 3 < 10; decide), fun u hu => ?_⟩
      rcases List.mem_append.mp hu with hu | hu
      · exact two (((Imm.same s7).trans (Imm.same s8)).trans im8) u hu
      · rw [List.mem_singleton.mp hu]
        exact ⟨t3, 1, "less", rfl, im8 _ _ upd_same, ⟨by decide, by decide, .inr (.inr rfl)⟩, fun _ => rfl⟩
  · rintro σ' H7 ⟨rfl, hD7, G7, us, hw7, us0, us1, hus⟩
    have hR7 := hR.to G7.im
    obtain ⟨va, vs, rfl, hva, hvs⟩ := id hR7
    have lvs := hvs.length
    rw [encs_length] at lvs
    have lts := cnt_len ts
    refine ⟨_, rfl, _, rfl, va, vs, rfl, .inr (SqT.of hva), _, 1, rfl, rfl, d, L, (vs.length : Int) + 1, rfl, hD7, by omega, by omega, fun g H8 g0 g8 hD8 hB8 => ?_⟩
    have G78 : Go (· = d) H7 H8 := Go.but hD7 hB8 rfl
    have G8 := G7.trans G78
    obtain ⟨gn, rfl⟩ := Int.eq_ofNat_of_zero_le g0
    -- the plan with the again put in
    refine ⟨_, rfl, _, rfl, _, rfl, ?_⟩
    refine sl_rp (K := K) (lo := none) (hi := some (gn : Int)) (hR7.to G78.im) fun w1 H9 s9 hw1 => ?_
    rw [cutD_to, encs_take] at hw1
    have hD9 := hD8.same s9
    have G9 := G8.trans (Go.same s9)
    have hw9 : H9 w = some (.lst us) := s9 _ _ (G78.at hw7 nwd.1)
    refine ⟨_, rfl, _, rfl, d, L, _, us.length, rfl, hD9, us0, by omega, .inr ⟨w, us, rfl, nwd.1, SqL.of hw9, rfl, fun y H10 hy hD10 hB10 => ?_⟩⟩
    have G910 : Go (· = d) H9 H10 := Go.but hD9 hB10 rfl
    obtain ⟨a, k, z, rfl, ha, hag, hzl⟩ := hus y hy
    have ha10 : H10 a = some (.tup [.str "again", .int k, .str z]) := G910.im _ _ (Imm.same s9 _ _ (G78.im _ _ ha))
    refine ⟨(by show 1 ≤ sizeLine; decide), fun p1 np1 => ?_⟩
    have s11 := same_new (o := .tup [.ref a]) np1
    have hp1 : Rp (upd H10 p1 (.tup [.ref a])) (.ref p1) (.tup (encs [.again k z])) := rp_tup upd_same (rpl_cons (rp_tup (s11 _ _ ha10) (rpl_cons rfl (rpl_cons rfl (rpl_cons rfl rpl_nil)))) rpl_nil)
    have lt1 : (ts.take gn).length ≤ ts.length := by rw [List.length_take]; omega
    refine cat_rp (hw1.to (G910.im.trans (Imm.same s11))) hp1 (by rw [encs_length, encs_length]; show (ts.take gn).length + 1 ≤ 100000; omega) fun w2 H12 s12 hw2 => ?_
    rw [← encs_append] at hw2
    refine ⟨_, rfl, _, rfl, (gn : Int), rfl, ?_⟩
    dsimp only [tNoPart]
    have G12 := ((G9.trans G910).trans (Go.same s11)).trans (Go.same s12)
    have hD12 := (hD10.same s11).same s12
    refine sl_rp (K := K) (lo := some (gn : Int)) (hi := none) (hR.to G12.im) fun w3 H13 s13 hw3 => ?_
    rw [cutD_from, encs_drop] at hw3
    have lt2 : (ts.drop gn).length ≤ ts.length := by rw [List.length_drop]; omega
    refine cat_rp (hw2.to (Imm.same s13)) hw3 (by rw [encs_length, encs_length, List.length_append]; show (ts.take gn).length + 1 + (ts.drop gn).length ≤ 100000; omega) fun w4 H14 s14 hw4 => ?_
    rw [← encs_append, List.append_assoc] at hw4
    have G14 := (G12.trans (Go.same s13)).trans (Go.same s14)
    have hD14 := (hD12.same s13).same s14
    have hp14 := G14.at hp npd
    have lkv := hV.len
    rw [List.length_append] at lkv
    have lkv2 : kvs.length = qs.length + 1 := lkv
    refine ⟨_, rfl, _, rfl, pd, _, rfl, DPut.k (k := .inr x) hp14 (szl (by omega)), _, rfl, ?_⟩
    have im : Imm H14 (upd H14 pd (.dK (putK kvs (.inr x) w4))) := (Imm.refl H14).upd (fun xs e => by rw [hp14] at e; cases e)
    have npL : pd ≠ L := by
      obtain ⟨n1, i1, r1, q1, _, hL, _⟩ := hD14
      exact ne_of hp14 hL (fun z => by cases z)
    refine q gn k z _ hag hzl ⟨_, upd_same, PsV.put hxn (hw4.to im) (hV.to (G14.im.trans im))⟩ (hD14.upd npd npL) ⟨(G14.sx.mono fun b e => .inl e).upd_in (.inr rfl), G14.im.trans im⟩
end
end K08

set_option Elab.async false
set_option linter.all false
set_option maxRecDepth 100000
set_option maxHeartbeats 4000000
namespace K08
open PySem PySem.Spec PyProof.Rows L2 OG
open C8 (pss_cut pe_gc)

section
variable {P : Program} {w : World} {K : PySem.W.Frag} {mg : Str → Option Value} {base : Heap}
theorem Tops.bW (T : Tops w K mg) : ∃ ds, Vals [V.int 10000] ds ∧ Binds K T.dwalked ["plans", "name", "size", "most"] ds :=
  T.Dwalked.binds0 3 (by simp) rfl fun D doc pm an cdv ct us ks l1 l2 => by
    match us, l1, ks, l2 with
    | [_, _, _], _, [_], _ => exact ⟨_, _, _, _, _, _, rfl, rfl, rfl⟩
def g31 {α : Type} : List α → List α → List α
  | [a, b, c], [m] => [a, b, c, m]
  | _, _ => []
theorem Tops.bW1 (T : Tops w K mg) : KBn K T.dwalked ["plans", "name", "size", "most"] 3 ["most"] g31 g31 := by
  obtain ⟨oc, od, dV, kV, doc, pm, an, cdv, ct, osl, e, lk, hcd, hD, hK⟩ := T.Dwalked.ex
  rcases hD with ⟨_, rfl⟩ | ⟨z, _⟩
  · refine ⟨fun s us ws KX l1 l2 => ?_, fun {vs us zs ws} r1 r2 => ?_⟩
    · rw [e]
      match us, l1, ws, l2 with
      | [_, _, _], _, [_], _ => exact .of_eq rfl
    · match vs, us, r1, zs, ws, r2 with
      | [], _, .nil, _, _, _ => exact .nil
      | [_], _, .cons _ .nil, _, _, _ => exact .nil
      | [_, _], _, .cons _ (.cons _ .nil), _, _, _ => exact .nil
      | [_, _, _], _, .cons a (.cons b (.cons c .nil)), _, _, .nil => exact .nil
      | [_, _, _], _, .cons a (.cons b (.cons c .nil)), _, _, .cons m .nil => exact .cons a (.cons b (.cons c (.cons m .nil)))
      | [_, _, _], _, .cons a (.cons b (.cons c .nil)), _, _, .cons m (.cons _ _) => exact .nil
      | _, _, .cons _ (.cons _ (.cons _ (.cons _ _))), _, _, _ => exact .nil
  · exact absurd rfl z
theorem eq2_ints {H : Hp} {a b : Addr} {i j : Int} (ha : H a = some (.lst [.int i, .int j])) (hb : H b = some (.lst [.int i, .int j])) : Eq2 H 1 (.ref a) (.ref b) := by
  refine .inr ⟨a, b, _, _, rfl, rfl, .inr ⟨ha, hb⟩, rfl, (by show 2 < 100000; decide), fun k x y hx hy => ?_⟩
  rw [hx] at hy
  cases hy
  have hm := List.mem_of_getElem? hx
  obtain ⟨m, rfl, _⟩ := mem_ints2 hm
  exact ⟨rfl, rfl⟩
theorem run_law (T : Tops w K mg) : RunG P w K mg base 40 T.flaw T.dlaw ["_law_script"] (spLaw K) := by
  have Gl_begin : FnOk P w K mg base CX0 1 T.fl_begin T.dl_begin ["_law_script"] (spBegin K) := ok_begin T
  have Gl_take : FnOk P w K mg base CX0 1 T.fl_take T.dl_take ["_law_draw", "_law_sides"] spTake := ok_take T
  have Gl_same : FnOk P w K mg base CX0 2 T.fl_same T.dl_same ["_law_found", "_law_due"] (spSame 1) := ok_same T 1
  have Gl_drawn_plans : FnOk P w K mg base CX0 23 T.fl_drawn_plans T.dl_drawn_plans ["_law_draw", "_law_upto", "_law_figures", "_law_wide"] spPlans := ok_plans T
  have Gl_with_way : FnOk P w K mg base CX0 11 T.fl_with_way T.dl_with_way ["_law_draw", "_law_plans"] spWithWay := ok_with_way T
  have Gl_walk : FnOk P w K mg base CX0 34 T.fl_walk T.dl_walk ["_law_plans", "_law_name", "_law_size", "_law_left"] (spLPs 3) := ok_lwalk_all T 3
  have Gwalked : FnOk P w K mg base CX0 36 T.fwalked T.dwalked ["plans", "name", "size", "most"] (spWalked 3) := ok_walked T 3
  obtain ⟨ds, hdsW, hbW⟩ := T.bW
  have hbW1 := T.bW1
  refine runG_of (k := 39) T.Flaw sclaw (fun vs H Q E h => ?_) (fun cdv A outer s H vs Q E guard hr h => ?_)
  · obtain ⟨a, ns, rfl, _⟩ := h
    rfl
  obtain ⟨a, ns, rfl, hS, hlen, q⟩ := h
  refine ⟨_, (pss_cons (ps_set (i := 1) sclaw.nd rfl (Or.inl rfl) (pe_call Gl_begin (hr.mono (by omega)) (by rfl) T.gl_begin T.Fl_begin.kp T.bl_begin .nil pass0 (pa_cons (pv 0) pa_nil)))
 (pss_cons (ps_set (i := 2) sclaw.nd rfl (Or.inl rfl) (pe_call Gl_drawn_plans (hr.mono (by omega)) (by rfl) T.gl_drawn_plans T.Fl_drawn_plans.kp T.bl_drawn_plans .nil pass0 (pa_cons (pv 1) (pa_cons pe_int (pa_cons pe_bl (pa_cons pe_bl pa_nil))))))
 (pss_cut (ps_set (i := 3) sclaw.nd rfl (Or.inl rfl) (pe_ifExp (pt_cmpR op_eq (pe_call Gl_take (hr.mono (by omega)) (by rfl) T.gl_take T.Fl_take.kp T.bl_take .nil pass0 (pa_cons (pv 1) (pa_cons pe_int pa_nil))) pe_int (nomark _)) (pe_ix ix_list (pe_callTy (call_list_dK rfl) (by rfl) T.mlist (by decide +kernel) (pa_cons (pv 2) pa_nil)) (pe_un un_neg pe_int) (fun _ _ => rfl)) (pe_call Gl_with_way (hr.mono (by omega)) (by rfl) T.gl_with_way T.Fl_with_way.kp T.bl_with_way .nil pass0 (pa_cons (pv 1) (pa_cons (pv 2) pa_nil)))))
 (pss_cons (ps_set (i := 4) sclaw.nd rfl (Or.inl rfl) (pe_callB (call_reprD guard hr.units) (by rfl) T.mrepr (by decide +kernel) (pa_cons (pv 2) pa_nil)))
 (pss_cons (ps_for PassesOwn.never rfl (pi_list (pe_lst (pa_cons pe_int (pa_cons pe_int (pa_cons pe_int (pa_cons pe_int (pa_cons (pe_op op_add pe_int (pe_call Gl_take (hr.mono (by omega)) (by rfl) T.gl_take T.Fl_take.kp T.bl_take .nil pass0 (pa_cons (pv 1) (pa_cons pe_int pa_nil)))) (pa_cons (pe_call Gl_take (hr.mono (by omega)) (by rfl) T.gl_take T.Fl_take.kp T.bl_take .nil pass0 (pa_cons (pv 1) (pa_cons pe_int pa_nil))) pa_nil)))))))) (pg_name (i := 5) sclaw.nd rfl (Or.inl rfl))
  (pss_cons (ps_set (i := 6) sclaw.nd rfl (Or.inl rfl) (pe_lst (pa_cons pe_int pa_nil)))
 (pss_cons (ps_set (i := 7) sclaw.nd rfl (Or.inl rfl) (pe_call Gl_walk (hr.mono (by omega)) (by rfl) T.gl_walk T.Fl_walk.kp T.bl_walk .nil pass0 (pa_cons (pv 2) (pa_cons (pv 3) (pa_cons (pv 5) (pa_cons (pv 6) pa_nil))))))
 (pss_one (ps_if (pt_cmpR op_ge (pe_ix ix_list (pv 6) pe_int (fun _ _ => rfl)) pe_int (nomark _))
  (pss_cons (ps_set (i := 8) sclaw.nd rfl (Or.inl rfl) (pe_lst (pa_cons (pe_call Gwalked (hr.mono (by omega)) (by rfl) T.gwalked T.Fwalked.kp hbW hdsW pass0 (pa_cons (pv 2) (pa_cons (pv 3) (pa_cons (pv 5) pa_nil)))) (pa_cons (pe_callN Gwalked (hr.mono (by omega)) (by rfl) T.gwalked T.Fwalked.kp hbW1 pass0 (pa_cons (pv 2) (pa_cons (pv 3) (pa_cons (pv 5) pa_nil))) (pk_cons pe_int pk_nil)) pa_nil))))
 (pss_one (ps_if (pt_not (pt_val (pe_call Gl_same (hr.mono (by omega)) (by rfl) T.gl_same T.Fl_same.kp T.bl_same .nil pass0 (pa_cons (pv 8) (pa_cons (pe_lst (pa_cons (pv 7) (pa_cons (pv 7) pa_nil))) pa_nil)))))
  (pss_one (ps_ret pe_bl))
  pss_nil)))
  pss_nil)))))
 (pss_one (ps_ret (pe_cmpR op_eq (pe_callB (call_reprD guard hr.units) (by rfl) T.mrepr (by decide +kernel) (pa_cons (pv 2) pa_nil)) (pv 4) (nomark _))))))))), ?_⟩
  refine ⟨_, rfl, a, ns, rfl, hS, fun d L H1 sm nd nL hD => ?_⟩
  refine ⟨_, rfl, d, L, 3, true, false, rfl, hD, by decide, by decide, fun pd ps H2 npd npdd hPs hok hne hl3 hD2 G2 => ?_⟩
  obtain ⟨qs, x, ts, rfl, h0, hn, hx, hts, hT, hc⟩ := psok_last hok hne
  rw [List.length_append] at hl3
  have hq2 : qs.length + 1 ≤ 3 := hl3
  have hrk : Rk (plOf (qs ++ [(x, ts)])) 3 x := rk_le (by rw [List.length_append]; exact hq2) (psok_rk hok x (by rw [nms_snoc]; exact List.mem_append_right _ List.mem_cons_self))
  refine ⟨fun σ' H' => ∃ (ps' : PL) (x : Str), σ' = [some (.ref a), some (.ref d), some (.ref pd), some (.str x), none, none, none, none, none] ∧ Dr H' d L ∧ PsAt H' pd ps' ∧ ps'.length ≤ 3 ∧ Rk (plOf ps') 3 x ∧ ∀ p ∈ ps', nameB p.1 = true ∧ TsOk CT True ["n"] 4 p.2 ∧ cntB p.2 ≤ 101, ?_, ?_⟩
  · refine ⟨_, rfl, d, L, 3, rfl, hD2, by decide, by decide, fun g H3 g0 g1 hD3 hB3 => ?_⟩
    have hPs3 := hPs.to (Go.but hD2 hB3 (M := (· = d)) rfl) npdd
    refine ⟨rfl, _, rfl, ite2 (fun c => ?_) (fun c => ?_)⟩
    · obtain ⟨kvs, hp, hV⟩ := id hPs3
      refine ⟨_, rfl, pd, kvs, rfl, hp, fun l nl => ?_⟩
      rw [keys_strs hV.keys, nms_snoc, List.map_append]
      have sl := same_new (o := .lst ((nms qs).map V.str ++ [.str x])) nl
      refine ⟨1, rfl, l, _, -1, _, rfl, rfl, SqL.of upd_same, atI_last _ _, ?_⟩
      exact ⟨_, x, rfl, hD3.same sl, hPs3.same sl, by rw [List.length_append]; exact hq2, hrk, psok_all hok⟩
    · refine ⟨_, rfl, _, rfl, d, L, pd, qs, x, ts, rfl, hD3, hPs3, hok, hx, by omega, npdd, fun i k z H4 hag hzl hPs4 hD4 G4 => ?_⟩
      exact ⟨_, x, rfl, hD4, hPs4, by rw [List.length_append]; exact hq2, rk_le hq2 (with_rk h0 hx hT hc hag hzl), with_all h0 hn hT hc hag⟩
  rintro σ' H3 ⟨ps', x, rfl, hD3, hPs3, hl', hR', hall⟩
  obtain ⟨r1, r2, r3⟩ := ps_repr hl' hall
  refine ⟨_, rfl, pd, ps', rfl, hPs3, r1, r2, r3, ?_⟩
  refine ⟨_, rfl, d, L, 9, rfl, hD3, by decide, by decide, fun g1 H4 a4 b4 hD4 hB4 => ?_⟩
  have nd3 : pd ≠ d := npdd
  have hPs4 := hPs3.to (Go.but hD3 hB4 (M := (· = d)) rfl) nd3
  refine ⟨4, g1, rfl, rfl, _, rfl, d, L, 200, rfl, hD4, by decide, by decide, fun g2 H5 a5 b5 hD5 hB5 => ?_⟩
  have hPs5 := hPs4.to (Go.but hD4 hB5 (M := (· = d)) rfl) nd3
  refine ⟨(by show 6 ≤ sizeLine; decide), fun l nl => ?_⟩
  have hPs6 := hPs5.same (same_new (o := .lst [.int 0, .int 1, .int 2, .int 3, .int (4 + g1), .int g2]) nl)
  refine ⟨l, rfl, ⟨_, SqL.of upd_same⟩, ?_⟩
  refine for_list (xs := [V.int 0, .int 1, .int 2, .int 3, .int (4 + g1), .int g2]) (fun j σ H' => (∃ x5 x6 x7 x8, σ = [some (.ref a), some (.ref d), some (.ref pd), some (.str x), some (.str (PyData.dict (pyPs ps')).shown), x5, x6, x7, x8]) ∧ Same (upd H5 l (.lst [.int 0, .int 1, .int 2, .int 3, .int (4 + g1), .int g2])) H')
    ⟨⟨_, _, _, _, rfl⟩, Same.refl _⟩ (fun j σ H' _ hP => SqL.of (hP.2 _ _ upd_same)) (fun j u σ H6 hu hP => ?_) (fun σ H6 hP => ?_)
  · obtain ⟨⟨x5, x6, x7, x8, rfl⟩, s6⟩ := hP
    obtain ⟨n, rfl, hnm⟩ := mem_ints (ns := [0, 1, 2, 3, 4 + g1, g2]) (List.mem_of_getElem? hu)
    have hn0 : 0 ≤ n ∧ n ≤ 200 := by
      simp only [List.mem_cons, List.not_mem_nil, or_false] at hnm
      omega
    refine ⟨(by show 1 ≤ sizeLine; decide), fun Lf nLf => ?_⟩
    have s7 := same_new (o := .lst [.int 3000]) nLf
    have hPs7 := (hPs6.same s6).same s7
    refine ⟨_, rfl, _, rfl, _, rfl, _, rfl, pd, Lf, 3000, plOf ps', x, n, rfl, upd_same, hPs7.pl, hR', hn0.1, by omega, fun v l' H8 hv hLf G8 => ?_⟩
    have s8 : Same H6 H8 := fun b o hb => G8.sx b o (ne_of_none hb nLf) (s7 _ _ hb)
    refine ⟨_, rfl, Lf, _, 0, _, rfl, rfl, SqL.of hLf, rfl, l', 0, rfl, rfl, _, rfl, ite2 (fun c => ?_) (fun c => ?_)⟩
    · have hl0 : 0 ≤ l' := of_decide_eq_true c
      obtain ⟨rfl, el⟩ := hv hl0
      have hPs8 := (hPs6.same s6).same s8
      refine ⟨_, rfl, _, rfl, _, rfl, pd, plOf ps', x, n, 10000, rfl, hPs8.pl, hR', hn0.1, by omega, by omega, fun H9 s9 => ?_⟩
      refine ⟨_, rfl, _, rfl, _, rfl, rfl, rfl, pd, plOf ps', x, n, 3000, rfl, (hPs8.same s9).pl, hR', hn0.1, by omega, by omega, fun H10 s10 => ?_⟩
      refine ⟨(by show 2 ≤ sizeLine; decide), fun f nf => ?_⟩
      refine ⟨_, rfl, _, rfl, _, rfl, (by show 2 ≤ sizeLine; decide), fun f2 nf2 => ?_⟩
      have s11 := same_new (o := .lst [.int (callS (plOf ps') 3 x n).1, .int (callS (plOf ps') 3 x n).1]) nf
      have s12 := same_new (o := .lst [.int (callS (plOf ps') 3 x n).1, .int (callS (plOf ps') 3 x n).1]) nf2
      refine ⟨_, _, rfl, eq2_ints (s12 _ _ upd_same) upd_same, fun H13 s13 => ?_⟩
      refine ⟨true, rfl, iteF ?_⟩
      exact ⟨⟨_, _, _, _, rfl⟩, (((((s6.trans s8).trans s9).trans s10).trans s11).trans s12).trans s13⟩
    · exact ⟨⟨_, _, _, _, rfl⟩, s6.trans s8⟩
  · obtain ⟨⟨x5, x6, x7, x8, rfl⟩, s6⟩ := hP
    refine ⟨_, rfl, pd, ps', rfl, hPs6.same s6, r1, r2, r3, _, rfl, rfl, ?_⟩
    rw [decide_eq_true rfl]
    exact q H6
end
end K08

set_option Elab.async false
set_option linter.all false
set_option maxRecDepth 100000
set_option maxHeartbeats 4000000
namespace K08
open PySem PySem.Spec PyProof.Rows L2 OG
open C8 (pss_cut pe_gc)

section
variable {P : Program} {w : World} {K : PySem.W.Frag} {mg : Str → Option Value} {base : Heap}
end
theorem all_mk {w : World} {K : PySem.W.Frag} {h : Heap} {mg : Str → Option Value} {fa : Addr} (X : K.In h) (G : h.Ns mainGlobals mg) (hfa : mg "law" = some (.ref fa))
    {CWalk : Addr}
    {f1 : Addr} {od1 an1 : Option Addr} {sl1 : Array (Option Value)} {oc1 kV1 dc1 pm1 cd1 ct1 : Value}
    {f2 : Addr} {od2 an2 : Option Addr} {sl2 : Array (Option Value)} {oc2 kV2 dc2 pm2 cd2 ct2 : Value}
    {f3 : Addr} {od3 an3 : Option Addr} {sl3 : Array (Option Value)} {oc3 dc3 pm3 cd3 ct3 : Value} {kw3 : Addr} {kt3_0 : Tok}
    {f4 : Addr} {od4 an4 : Option Addr} {sl4 : Array (Option Value)} {oc4 kV4 dc4 pm4 cd4 ct4 : Value}
    {f5 : Addr} {od5 an5 : Option Addr} {sl5 : Array (Option Value)} {oc5 kV5 dc5 pm5 cd5 ct5 : Value}
    {f6 : Addr} {od6 an6 : Option Addr} {sl6 : Array (Option Value)} {oc6 kV6 dc6 pm6 cd6 ct6 : Value}
    {f7 : Addr} {od7 an7 : Option Addr} {sl7 : Array (Option Value)} {oc7 kV7 dc7 pm7 cd7 ct7 : Value}
    {f8 : Addr} {od8 an8 : Option Addr} {sl8 : Array (Option Value)} {oc8 kV8 dc8 pm8 cd8 ct8 : Value}
    {f9 : Addr} {od9 an9 : Option Addr} {sl9 : Array (Option Value)} {oc9 kV9 dc9 pm9 cd9 ct9 : Value}
    {f10 : Addr} {od10 an10 : Option Addr} {sl10 : Array (Option Value)} {oc10 kV10 dc10 pm10 cd10 ct10 : Value}
    {f11 : Addr} {od11 an11 : Option Addr} {sl11 : Array (Option Value)} {oc11 kV11 dc11 pm11 cd11 ct11 : Value}
    {f12 : Addr} {od12 an12 : Option Addr} {sl12 : Array (Option Value)} {oc12 kV12 dc12 pm12 cd12 ct12 : Value}
    {f13 : Addr} {od13 an13 : Option Addr} {sl13 : Array (Option Value)} {oc13 kV13 dc13 pm13 cd13 ct13 : Value}
    {f14 : Addr} {od14 an14 : Option Addr} {sl14 : Array (Option Value)} {oc14 kV14 dc14 pm14 cd14 ct14 : Value}
    {f15 : Addr} {od15 an15 : Option Addr} {sl15 : Array (Option Value)} {oc15 kV15 dc15 pm15 cd15 ct15 : Value}
    {f16 : Addr} {od16 an16 : Option Addr} {sl16 : Array (Option Value)} {oc16 kV16 dc16 pm16 cd16 ct16 : Value}
    {f17 : Addr} {od17 an17 : Option Addr} {sl17 : Array (Option Value)} {oc17 kV17 dc17 pm17 cd17 ct17 : Value}
    {f18 : Addr} {od18 an18 : Option Addr} {sl18 : Array (Option Value)} {oc18 kV18 dc18 pm18 cd18 ct18 : Value}
    {f19 : Addr} {od19 an19 : Option Addr} {sl19 : Array (Option Value)} {oc19 kV19 dc19 pm19 cd19 ct19 : Value}
    {f20 : Addr} {od20 an20 : Option Addr} {sl20 : Array (Option Value)} {oc20 kV20 dc20 pm20 cd20 ct20 : Value}
    {f21 : Addr} {od21 an21 : Option Addr} {sl21 : Array (Option Value)} {oc21 kV21 dc21 pm21 cd21 ct21 : Value}
    {f22 : Addr} {od22 an22 : Option Addr} {sl22 : Array (Option Value)} {oc22 kV22 dc22 pm22 cd22 ct22 : Value}
    {f23 : Addr} {od23 an23 : Option Addr} {sl23 : Array (Option Value)} {oc23 kV23 dc23 pm23 cd23 ct23 : Value}
    {f24 : Addr} {od24 an24 : Option Addr} {sl24 : Array (Option Value)} {oc24 kV24 dc24 pm24 cd24 ct24 : Value}
    {f25 : Addr} {od25 an25 : Option Addr} {sl25 : Array (Option Value)} {oc25 kV25 dc25 pm25 cd25 ct25 : Value}
    {f26 : Addr} {od26 an26 : Option Addr} {sl26 : Array (Option Value)} {oc26 kV26 dc26 pm26 cd26 ct26 : Value}
    {f27 : Addr} {od27 an27 : Option Addr} {sl27 : Array (Option Value)} {oc27 kV27 dc27 pm27 cd27 ct27 : Value}
    {f28 : Addr} {od28 an28 : Option Addr} {sl28 : Array (Option Value)} {oc28 kV28 dc28 pm28 cd28 ct28 : Value}
    {f29 : Addr} {od29 an29 : Option Addr} {sl29 : Array (Option Value)} {oc29 kV29 dc29 pm29 cd29 ct29 : Value}
    {f30 : Addr} {od30 an30 : Option Addr} {sl30 : Array (Option Value)} {oc30 kV30 dc30 pm30 cd30 ct30 : Value}
    {f31 : Addr} {od31 an31 : Option Addr} {sl31 : Array (Option Value)} {oc31 kV31 dc31 pm31 cd31 ct31 : Value}
    {f32 : Addr} {od32 an32 : Option Addr} {sl32 : Array (Option Value)} {oc32 kV32 dc32 pm32 cd32 ct32 : Value}
    {f33 : Addr} {od33 an33 : Option Addr} {sl33 : Array (Option Value)} {oc33 kV33 dc33 pm33 cd33 ct33 : Value}
    {f34 : Addr} {od34 an34 : Option Addr} {sl34 : Array (Option Value)} {oc34 kV34 dc34 pm34 cd34 ct34 : Value}
    {f35 : Addr} {od35 an35 : Option Addr} {sl35 : Array (Option Value)} {oc35 kV35 dc35 pm35 cd35 ct35 : Value}
    {f36 : Addr} {od36 an36 : Option Addr} {sl36 : Array (Option Value)} {oc36 kV36 dc36 pm36 cd36 ct36 : Value}
    {f37 : Addr} {od37 an37 : Option Addr} {sl37 : Array (Option Value)} {oc37 kV37 dc37 pm37 cd37 ct37 : Value}
    {f38 : Addr} {od38 an38 : Option Addr} {sl38 : Array (Option Value)} {oc38 kV38 dc38 pm38 cd38 ct38 : Value}
    {f39 : Addr} {od39 an39 : Option Addr} {sl39 : Array (Option Value)} {oc39 kV39 dc39 pm39 cd39 ct39 : Value}
    {f40 : Addr} {od40 an40 : Option Addr} {sl40 : Array (Option Value)} {oc40 kV40 dc40 pm40 cd40 ct40 : Value}
    {vt1 : Tok}
    (aCWalk : PySem.W.nsIn K mainGlobals "Walk" = some (some (.ref CWalk))) (pgWalk : PySem.W.plainGet K CWalk Str.empty = true) (hdWalk : PySem.W.hasDictIn K CWalk = true) (poWalk : PySem.W.plainOver K CWalk = true) (saWalk : PySem.W.findIn K (.ref CWalk) "__setattr__" = some (some (.builtin "object.__setattr__"))) (mkWalk : PySem.W.makesIn K CWalk = true) (kcWalk : PySem.W.keepIn K (.ref CWalk) = true)
    (naWalk_0 : PySem.W.findIn K (.ref CWalk) "plans" = some none)
    (naWalk_1 : PySem.W.findIn K (.ref CWalk) "left" = some none)
    (a1 : PySem.W.findIn K (.ref CWalk) "__init__" = some (some (.ref f1))) (i1 : PySem.W.isFn K (.ref f1) = true) (l1 : K.lookup f1 = some ⟨oc1, od1, .func (PySem.W.fnOf "__init__" "Walk.__init__" (defArgs sWalk___init__) (defBody sWalk___init__) (defScope sWalk___init__) .none kV1 dc1 pm1 an1 cd1 ct1), sl1⟩) (c1 : PySem.W.codeIn K cd1 "Walk.__init__" = true) (k1 : PySem.W.keepIn K (.ref f1) = true)
    (a2 : PySem.W.findIn K (.ref CWalk) "visit" = some (some (.ref f2))) (i2 : PySem.W.isFn K (.ref f2) = true) (l2 : K.lookup f2 = some ⟨oc2, od2, .func (PySem.W.fnOf "visit" "Walk.visit" (defArgs sWalk_visit) (defBody sWalk_visit) (defScope sWalk_visit) .none kV2 dc2 pm2 an2 cd2 ct2), sl2⟩) (c2 : PySem.W.codeIn K cd2 "Walk.visit" = true) (k2 : PySem.W.keepIn K (.ref f2) = true)
    (a3 : PySem.W.nsIn K mainGlobals "walked" = some (some (.ref f3))) (l3 : K.lookup f3 = some ⟨oc3, od3, .func (PySem.W.fnOf "walked" "walked" (defArgs swalked) (defBody swalked) (defScope swalked) .none (.ref kw3) dc3 pm3 an3 cd3 ct3), sl3⟩) (c3 : PySem.W.codeIn K cd3 "walked" = true) (k3 : PySem.W.keepIn K (.ref f3) = true)
    (kx3_0 : PySem.W.nsIn K kw3 "most" = some (some (.int 10000 kt3_0)))
    (a4 : PySem.W.nsIn K mainGlobals "plan_steps" = some (some (.ref f4))) (l4 : K.lookup f4 = some ⟨oc4, od4, .func (PySem.W.fnOf "plan_steps" "plan_steps" (defArgs splan_steps) (defBody splan_steps) (defScope splan_steps) .none kV4 dc4 pm4 an4 cd4 ct4), sl4⟩) (c4 : PySem.W.codeIn K cd4 "plan_steps" = true) (k4 : PySem.W.keepIn K (.ref f4) = true)
    (a5 : PySem.W.nsIn K mainGlobals "again_of" = some (some (.ref f5))) (l5 : K.lookup f5 = some ⟨oc5, od5, .func (PySem.W.fnOf "again_of" "again_of" (defArgs sagain_of) (defBody sagain_of) (defScope sagain_of) .none kV5 dc5 pm5 an5 cd5 ct5), sl5⟩) (c5 : PySem.W.codeIn K cd5 "again_of" = true) (k5 : PySem.W.keepIn K (.ref f5) = true)
    (a6 : PySem.W.nsIn K mainGlobals "lesser_size" = some (some (.ref f6))) (l6 : K.lookup f6 = some ⟨oc6, od6, .func (PySem.W.fnOf "lesser_size" "lesser_size" (defArgs slesser_size) (defBody slesser_size) (defScope slesser_size) .none kV6 dc6 pm6 an6 cd6 ct6), sl6⟩) (c6 : PySem.W.codeIn K cd6 "lesser_size" = true) (k6 : PySem.W.keepIn K (.ref f6) = true)
    (a7 : PySem.W.nsIn K mainGlobals "end_value" = some (some (.ref f7))) (l7 : K.lookup f7 = some ⟨oc7, od7, .func (PySem.W.fnOf "end_value" "end_value" (defArgs send_value) (defBody send_value) (defScope send_value) .none kV7 dc7 pm7 an7 cd7 ct7), sl7⟩) (c7 : PySem.W.codeIn K cd7 "end_value" = true) (k7 : PySem.W.keepIn K (.ref f7) = true)
    (a8 : PySem.W.nsIn K mainGlobals "body_steps" = some (some (.ref f8))) (l8 : K.lookup f8 = some ⟨oc8, od8, .func (PySem.W.fnOf "body_steps" "body_steps" (defArgs sbody_steps) (defBody sbody_steps) (defScope sbody_steps) .none kV8 dc8 pm8 an8 cd8 ct8), sl8⟩) (c8 : PySem.W.codeIn K cd8 "body_steps" = true) (k8 : PySem.W.keepIn K (.ref f8) = true)
    (a9 : PySem.W.nsIn K mainGlobals "step_steps" = some (some (.ref f9))) (l9 : K.lookup f9 = some ⟨oc9, od9, .func (PySem.W.fnOf "step_steps" "step_steps" (defArgs sstep_steps) (defBody sstep_steps) (defScope sstep_steps) .none kV9 dc9 pm9 an9 cd9 ct9), sl9⟩) (c9 : PySem.W.codeIn K cd9 "step_steps" = true) (k9 : PySem.W.keepIn K (.ref f9) = true)
    (a10 : PySem.W.nsIn K mainGlobals "for_steps" = some (some (.ref f10))) (l10 : K.lookup f10 = some ⟨oc10, od10, .func (PySem.W.fnOf "for_steps" "for_steps" (defArgs sfor_steps) (defBody sfor_steps) (defScope sfor_steps) .none kV10 dc10 pm10 an10 cd10 ct10), sl10⟩) (c10 : PySem.W.codeIn K cd10 "for_steps" = true) (k10 : PySem.W.keepIn K (.ref f10) = true)
    (a11 : PySem.W.nsIn K mainGlobals "if_steps" = some (some (.ref f11))) (l11 : K.lookup f11 = some ⟨oc11, od11, .func (PySem.W.fnOf "if_steps" "if_steps" (defArgs sif_steps) (defBody sif_steps) (defScope sif_steps) .none kV11 dc11 pm11 an11 cd11 ct11), sl11⟩) (c11 : PySem.W.codeIn K cd11 "if_steps" = true) (k11 : PySem.W.keepIn K (.ref f11) = true)
    (a12 : PySem.W.nsIn K mainGlobals "double_steps" = some (some (.ref f12))) (l12 : K.lookup f12 = some ⟨oc12, od12, .func (PySem.W.fnOf "double_steps" "double_steps" (defArgs sdouble_steps) (defBody sdouble_steps) (defScope sdouble_steps) .none kV12 dc12 pm12 an12 cd12 ct12), sl12⟩) (c12 : PySem.W.codeIn K cd12 "double_steps" = true) (k12 : PySem.W.keepIn K (.ref f12) = true)
    (a13 : PySem.W.nsIn K mainGlobals "call_steps" = some (some (.ref f13))) (l13 : K.lookup f13 = some ⟨oc13, od13, .func (PySem.W.fnOf "call_steps" "call_steps" (defArgs scall_steps) (defBody scall_steps) (defScope scall_steps) .none kV13 dc13 pm13 an13 cd13 ct13), sl13⟩) (c13 : PySem.W.codeIn K cd13 "call_steps" = true) (k13 : PySem.W.keepIn K (.ref f13) = true)
    (a14 : PySem.W.nsIn K mainGlobals "_law_begin" = some (some (.ref f14))) (l14 : K.lookup f14 = some ⟨oc14, od14, .func (PySem.W.fnOf "_law_begin" "_law_begin" (defArgs sl_begin) (defBody sl_begin) (defScope sl_begin) .none kV14 dc14 pm14 an14 cd14 ct14), sl14⟩) (c14 : PySem.W.codeIn K cd14 "_law_begin" = true) (k14 : PySem.W.keepIn K (.ref f14) = true)
    (a15 : PySem.W.nsIn K mainGlobals "_law_take" = some (some (.ref f15))) (l15 : K.lookup f15 = some ⟨oc15, od15, .func (PySem.W.fnOf "_law_take" "_law_take" (defArgs sl_take) (defBody sl_take) (defScope sl_take) .none kV15 dc15 pm15 an15 cd15 ct15), sl15⟩) (c15 : PySem.W.codeIn K cd15 "_law_take" = true) (k15 : PySem.W.keepIn K (.ref f15) = true)
    (a16 : PySem.W.nsIn K mainGlobals "_law_pick" = some (some (.ref f16))) (l16 : K.lookup f16 = some ⟨oc16, od16, .func (PySem.W.fnOf "_law_pick" "_law_pick" (defArgs sl_pick) (defBody sl_pick) (defScope sl_pick) .none kV16 dc16 pm16 an16 cd16 ct16), sl16⟩) (c16 : PySem.W.codeIn K cd16 "_law_pick" = true) (k16 : PySem.W.keepIn K (.ref f16) = true)
    (a17 : PySem.W.nsIn K mainGlobals "_law_kept_words" = some (some (.ref f17))) (l17 : K.lookup f17 = some ⟨oc17, od17, .func (PySem.W.fnOf "_law_kept_words" "_law_kept_words" (defArgs sl_kept_words) (defBody sl_kept_words) (defScope sl_kept_words) .none kV17 dc17 pm17 an17 cd17 ct17), sl17⟩) (c17 : PySem.W.codeIn K cd17 "_law_kept_words" = true) (k17 : PySem.W.keepIn K (.ref f17) = true)
    (a18 : PySem.W.nsIn K mainGlobals "_law_fresh" = some (some (.ref f18))) (l18 : K.lookup f18 = some ⟨oc18, od18, .func (PySem.W.fnOf "_law_fresh" "_law_fresh" (defArgs sl_fresh) (defBody sl_fresh) (defScope sl_fresh) .none kV18 dc18 pm18 an18 cd18 ct18), sl18⟩) (c18 : PySem.W.codeIn K cd18 "_law_fresh" = true) (k18 : PySem.W.keepIn K (.ref f18) = true)
    (a19 : PySem.W.nsIn K mainGlobals "_law_way" = some (some (.ref f19))) (l19 : K.lookup f19 = some ⟨oc19, od19, .func (PySem.W.fnOf "_law_way" "_law_way" (defArgs sl_way) (defBody sl_way) (defScope sl_way) .none kV19 dc19 pm19 an19 cd19 ct19), sl19⟩) (c19 : PySem.W.codeIn K cd19 "_law_way" = true) (k19 : PySem.W.keepIn K (.ref f19) = true)
    (a20 : PySem.W.nsIn K mainGlobals "_law_plain" = some (some (.ref f20))) (l20 : K.lookup f20 = some ⟨oc20, od20, .func (PySem.W.fnOf "_law_plain" "_law_plain" (defArgs sl_plain) (defBody sl_plain) (defScope sl_plain) .none kV20 dc20 pm20 an20 cd20 ct20), sl20⟩) (c20 : PySem.W.codeIn K cd20 "_law_plain" = true) (k20 : PySem.W.keepIn K (.ref f20) = true)
    (a21 : PySem.W.nsIn K mainGlobals "_law_bodies" = some (some (.ref f21))) (l21 : K.lookup f21 = some ⟨oc21, od21, .func (PySem.W.fnOf "_law_bodies" "_law_bodies" (defArgs sl_bodies) (defBody sl_bodies) (defScope sl_bodies) .none kV21 dc21 pm21 an21 cd21 ct21), sl21⟩) (c21 : PySem.W.codeIn K cd21 "_law_bodies" = true) (k21 : PySem.W.keepIn K (.ref f21) = true)
    (a22 : PySem.W.nsIn K mainGlobals "_law_every" = some (some (.ref f22))) (l22 : K.lookup f22 = some ⟨oc22, od22, .func (PySem.W.fnOf "_law_every" "_law_every" (defArgs sl_every) (defBody sl_every) (defScope sl_every) .none kV22 dc22 pm22 an22 cd22 ct22), sl22⟩) (c22 : PySem.W.codeIn K cd22 "_law_every" = true) (k22 : PySem.W.keepIn K (.ref f22) = true)
    (a23 : PySem.W.nsIn K mainGlobals "_law_figured" = some (some (.ref f23))) (l23 : K.lookup f23 = some ⟨oc23, od23, .func (PySem.W.fnOf "_law_figured" "_law_figured" (defArgs sl_figured) (defBody sl_figured) (defScope sl_figured) .none kV23 dc23 pm23 an23 cd23 ct23), sl23⟩) (c23 : PySem.W.codeIn K cd23 "_law_figured" = true) (k23 : PySem.W.keepIn K (.ref f23) = true)
    (a24 : PySem.W.nsIn K mainGlobals "_law_weight_in" = some (some (.ref f24))) (l24 : K.lookup f24 = some ⟨oc24, od24, .func (PySem.W.fnOf "_law_weight_in" "_law_weight_in" (defArgs sl_weight_in) (defBody sl_weight_in) (defScope sl_weight_in) .none kV24 dc24 pm24 an24 cd24 ct24), sl24⟩) (c24 : PySem.W.codeIn K cd24 "_law_weight_in" = true) (k24 : PySem.W.keepIn K (.ref f24) = true)
    (a25 : PySem.W.nsIn K mainGlobals "_law_weight" = some (some (.ref f25))) (l25 : K.lookup f25 = some ⟨oc25, od25, .func (PySem.W.fnOf "_law_weight" "_law_weight" (defArgs sl_weight) (defBody sl_weight) (defScope sl_weight) .none kV25 dc25 pm25 an25 cd25 ct25), sl25⟩) (c25 : PySem.W.codeIn K cd25 "_law_weight" = true) (k25 : PySem.W.keepIn K (.ref f25) = true)
    (a26 : PySem.W.nsIn K mainGlobals "_law_calls" = some (some (.ref f26))) (l26 : K.lookup f26 = some ⟨oc26, od26, .func (PySem.W.fnOf "_law_calls" "_law_calls" (defArgs sl_calls) (defBody sl_calls) (defScope sl_calls) .none kV26 dc26 pm26 an26 cd26 ct26), sl26⟩) (c26 : PySem.W.codeIn K cd26 "_law_calls" = true) (k26 : PySem.W.keepIn K (.ref f26) = true)
    (a27 : PySem.W.nsIn K mainGlobals "_law_chain" = some (some (.ref f27))) (l27 : K.lookup f27 = some ⟨oc27, od27, .func (PySem.W.fnOf "_law_chain" "_law_chain" (defArgs sl_chain) (defBody sl_chain) (defScope sl_chain) .none kV27 dc27 pm27 an27 cd27 ct27), sl27⟩) (c27 : PySem.W.codeIn K cd27 "_law_chain" = true) (k27 : PySem.W.keepIn K (.ref f27) = true)
    (a28 : PySem.W.nsIn K mainGlobals "_law_some_end" = some (some (.ref f28))) (l28 : K.lookup f28 = some ⟨oc28, od28, .func (PySem.W.fnOf "_law_some_end" "_law_some_end" (defArgs sl_some_end) (defBody sl_some_end) (defScope sl_some_end) .none kV28 dc28 pm28 an28 cd28 ct28), sl28⟩) (c28 : PySem.W.codeIn K cd28 "_law_some_end" = true) (k28 : PySem.W.keepIn K (.ref f28) = true)
    (a29 : PySem.W.nsIn K mainGlobals "_law_leaf" = some (some (.ref f29))) (l29 : K.lookup f29 = some ⟨oc29, od29, .func (PySem.W.fnOf "_law_leaf" "_law_leaf" (defArgs sl_leaf) (defBody sl_leaf) (defScope sl_leaf) .none kV29 dc29 pm29 an29 cd29 ct29), sl29⟩) (c29 : PySem.W.codeIn K cd29 "_law_leaf" = true) (k29 : PySem.W.keepIn K (.ref f29) = true)
    (a30 : PySem.W.nsIn K mainGlobals "_law_drawn_thing" = some (some (.ref f30))) (l30 : K.lookup f30 = some ⟨oc30, od30, .func (PySem.W.fnOf "_law_drawn_thing" "_law_drawn_thing" (defArgs sl_drawn_thing) (defBody sl_drawn_thing) (defScope sl_drawn_thing) .none kV30 dc30 pm30 an30 cd30 ct30), sl30⟩) (c30 : PySem.W.codeIn K cd30 "_law_drawn_thing" = true) (k30 : PySem.W.keepIn K (.ref f30) = true)
    (a31 : PySem.W.nsIn K mainGlobals "_law_drawn_body" = some (some (.ref f31))) (l31 : K.lookup f31 = some ⟨oc31, od31, .func (PySem.W.fnOf "_law_drawn_body" "_law_drawn_body" (defArgs sl_drawn_body) (defBody sl_drawn_body) (defScope sl_drawn_body) .none kV31 dc31 pm31 an31 cd31 ct31), sl31⟩) (c31 : PySem.W.codeIn K cd31 "_law_drawn_body" = true) (k31 : PySem.W.keepIn K (.ref f31) = true)
    (a32 : PySem.W.nsIn K mainGlobals "_law_more_plan" = some (some (.ref f32))) (l32 : K.lookup f32 = some ⟨oc32, od32, .func (PySem.W.fnOf "_law_more_plan" "_law_more_plan" (defArgs sl_more_plan) (defBody sl_more_plan) (defScope sl_more_plan) .none kV32 dc32 pm32 an32 cd32 ct32), sl32⟩) (c32 : PySem.W.codeIn K cd32 "_law_more_plan" = true) (k32 : PySem.W.keepIn K (.ref f32) = true)
    (a33 : PySem.W.nsIn K mainGlobals "_law_drawn_plans" = some (some (.ref f33))) (l33 : K.lookup f33 = some ⟨oc33, od33, .func (PySem.W.fnOf "_law_drawn_plans" "_law_drawn_plans" (defArgs sl_drawn_plans) (defBody sl_drawn_plans) (defScope sl_drawn_plans) .none kV33 dc33 pm33 an33 cd33 ct33), sl33⟩) (c33 : PySem.W.codeIn K cd33 "_law_drawn_plans" = true) (k33 : PySem.W.keepIn K (.ref f33) = true)
    (a34 : PySem.W.nsIn K mainGlobals "_law_with_way" = some (some (.ref f34))) (l34 : K.lookup f34 = some ⟨oc34, od34, .func (PySem.W.fnOf "_law_with_way" "_law_with_way" (defArgs sl_with_way) (defBody sl_with_way) (defScope sl_with_way) .none kV34 dc34 pm34 an34 cd34 ct34), sl34⟩) (c34 : PySem.W.codeIn K cd34 "_law_with_way" = true) (k34 : PySem.W.keepIn K (.ref f34) = true)
    (a35 : PySem.W.nsIn K mainGlobals "_law_comes" = some (some (.ref f35))) (l35 : K.lookup f35 = some ⟨oc35, od35, .func (PySem.W.fnOf "_law_comes" "_law_comes" (defArgs sl_comes) (defBody sl_comes) (defScope sl_comes) .none kV35 dc35 pm35 an35 cd35 ct35), sl35⟩) (c35 : PySem.W.codeIn K cd35 "_law_comes" = true) (k35 : PySem.W.keepIn K (.ref f35) = true)
    (a36 : PySem.W.nsIn K mainGlobals "_law_walk_thing" = some (some (.ref f36))) (l36 : K.lookup f36 = some ⟨oc36, od36, .func (PySem.W.fnOf "_law_walk_thing" "_law_walk_thing" (defArgs sl_walk_thing) (defBody sl_walk_thing) (defScope sl_walk_thing) .none kV36 dc36 pm36 an36 cd36 ct36), sl36⟩) (c36 : PySem.W.codeIn K cd36 "_law_walk_thing" = true) (k36 : PySem.W.keepIn K (.ref f36) = true)
    (a37 : PySem.W.nsIn K mainGlobals "_law_walk_body" = some (some (.ref f37))) (l37 : K.lookup f37 = some ⟨oc37, od37, .func (PySem.W.fnOf "_law_walk_body" "_law_walk_body" (defArgs sl_walk_body) (defBody sl_walk_body) (defScope sl_walk_body) .none kV37 dc37 pm37 an37 cd37 ct37), sl37⟩) (c37 : PySem.W.codeIn K cd37 "_law_walk_body" = true) (k37 : PySem.W.keepIn K (.ref f37) = true)
    (a38 : PySem.W.nsIn K mainGlobals "_law_walk" = some (some (.ref f38))) (l38 : K.lookup f38 = some ⟨oc38, od38, .func (PySem.W.fnOf "_law_walk" "_law_walk" (defArgs sl_walk) (defBody sl_walk) (defScope sl_walk) .none kV38 dc38 pm38 an38 cd38 ct38), sl38⟩) (c38 : PySem.W.codeIn K cd38 "_law_walk" = true) (k38 : PySem.W.keepIn K (.ref f38) = true)
    (a39 : PySem.W.nsIn K mainGlobals "_law_same" = some (some (.ref f39))) (l39 : K.lookup f39 = some ⟨oc39, od39, .func (PySem.W.fnOf "_law_same" "_law_same" (defArgs sl_same) (defBody sl_same) (defScope sl_same) .none kV39 dc39 pm39 an39 cd39 ct39), sl39⟩) (c39 : PySem.W.codeIn K cd39 "_law_same" = true) (k39 : PySem.W.keepIn K (.ref f39) = true)
    (a40 : PySem.W.nsIn K mainGlobals "law" = some (some (.ref f40))) (l40 : K.lookup f40 = some ⟨oc40, od40, .func (PySem.W.fnOf "law" "law" (defArgs slaw) (defBody slaw) (defScope slaw) .none kV40 dc40 pm40 an40 cd40 ct40), sl40⟩) (c40 : PySem.W.codeIn K cd40 "law" = true) (k40 : PySem.W.keepIn K (.ref f40) = true)
    (z1 : PySem.W.nsIn K mainGlobals "abs" = some none)
    (z2 : PySem.W.nsIn K mainGlobals "all" = some none)
    (z3 : PySem.W.nsIn K mainGlobals "bool" = some none)
    (z4 : PySem.W.nsIn K mainGlobals "dict" = some none)
    (z5 : PySem.W.nsIn K mainGlobals "int" = some none)
    (z6 : PySem.W.nsIn K mainGlobals "isinstance" = some none)
    (z7 : PySem.W.nsIn K mainGlobals "len" = some none)
    (z8 : PySem.W.nsIn K mainGlobals "list" = some none)
    (z9 : PySem.W.nsIn K mainGlobals "max" = some none)
    (z10 : PySem.W.nsIn K mainGlobals "range" = some none)
    (z11 : PySem.W.nsIn K mainGlobals "repr" = some none)
    (z12 : PySem.W.nsIn K mainGlobals "sorted" = some none)
    (z13 : PySem.W.nsIn K mainGlobals "str" = some none)
    (z14 : PySem.W.nsIn K mainGlobals "tuple" = some none)
    (z15 : PySem.W.nsIn K mainGlobals "zip" = some none)
    (v1 : PySem.W.nsIn K mainGlobals "MOST_VISITS" = some (some (.int 10000 vt1)))
    {da1 : Addr} {de1 : Array DictEntry} {dn1 : Nat} (dv1 : PySem.W.nsIn K mainGlobals "STEPS" = some (some (.ref da1))) (dl1 : K.lookup da1 = some ⟨.type "dict", none, .dict de1 dn1, #[]⟩) (dk1 : PySem.W.KeysLit w.params de1.toList) (dw1 : (da1 == sysModules) = false)
    (dx1_0 : PySem.W.nsIn K da1 "step" = some (some (.ref f9)))
    (dx1_1 : PySem.W.nsIn K da1 "for" = some (some (.ref f10)))
    (dx1_2 : PySem.W.nsIn K da1 "if" = some (some (.ref f11)))
    (dx1_3 : PySem.W.nsIn K da1 "double" = some (some (.ref f12)))
    (dx1_4 : PySem.W.nsIn K da1 "call" = some (some (.ref f13))) :
    ∃ T : Tops w K mg, T.flaw = fa := by
  have e := hfa.symm.trans (PySem.W.mg_of X G a40)
  refine ⟨{ CWalk := CWalk, clWalk := ⟨pgWalk, hdWalk, poWalk, saWalk⟩, gWalk := (PySem.W.mg_of X G aCWalk), naWalk_plans := naWalk_0, naWalk_left := naWalk_1, fWalk___init__ := f1, dWalk___init__ := _, FWalk___init__ := (fun_mk (st := sWalk___init__) l1 c1 k1), mkWalk := ⟨mkWalk, a1, i1, kcWalk⟩, fWalk_visit := f2, dWalk_visit := _, FWalk_visit := (fun_mk (st := sWalk_visit) l2 c2 k2), mtWalk_visit := ⟨a2, i2, k2⟩, Dwalked := ⟨⟨_, _, _, _, _, _, _, _, _, _, rfl, l3, c3, .inl ⟨rfl, rfl⟩, .inr ⟨_, rfl, fun q => fun hq => (List.mem_cons.mp hq).elim (fun e => by rw [e]; exact ⟨_, kx3_0, ⟨_, rfl⟩⟩) (fun z => by cases z)⟩⟩, k3⟩, fwalked := f3, dwalked := _, Fwalked := (fun_mk (st := swalked) l3 c3 k3), gwalked := (PySem.W.mg_of X G a3), fplan_steps := f4, dplan_steps := _, Fplan_steps := (fun_mk (st := splan_steps) l4 c4 k4), gplan_steps := (PySem.W.mg_of X G a4), fagain_of := f5, dagain_of := _, Fagain_of := (fun_mk (st := sagain_of) l5 c5 k5), gagain_of := (PySem.W.mg_of X G a5), flesser_size := f6, dlesser_size := _, Flesser_size := (fun_mk (st := slesser_size) l6 c6 k6), glesser_size := (PySem.W.mg_of X G a6), fend_value := f7, dend_value := _, Fend_value := (fun_mk (st := send_value) l7 c7 k7), gend_value := (PySem.W.mg_of X G a7), fbody_steps := f8, dbody_steps := _, Fbody_steps := (fun_mk (st := sbody_steps) l8 c8 k8), gbody_steps := (PySem.W.mg_of X G a8), fstep_steps := f9, dstep_steps := _, Fstep_steps := (fun_mk (st := sstep_steps) l9 c9 k9), gstep_steps := (PySem.W.mg_of X G a9), ffor_steps := f10, dfor_steps := _, Ffor_steps := (fun_mk (st := sfor_steps) l10 c10 k10), gfor_steps := (PySem.W.mg_of X G a10), fif_steps := f11, dif_steps := _, Fif_steps := (fun_mk (st := sif_steps) l11 c11 k11), gif_steps := (PySem.W.mg_of X G a11), fdouble_steps := f12, ddouble_steps := _, Fdouble_steps := (fun_mk (st := sdouble_steps) l12 c12 k12), gdouble_steps := (PySem.W.mg_of X G a12), fcall_steps := f13, dcall_steps := _, Fcall_steps := (fun_mk (st := scall_steps) l13 c13 k13), gcall_steps := (PySem.W.mg_of X G a13), fl_begin := f14, dl_begin := _, Fl_begin := (fun_mk (st := sl_begin) l14 c14 k14), gl_begin := (PySem.W.mg_of X G a14), fl_take := f15, dl_take := _, Fl_take := (fun_mk (st := sl_take) l15 c15 k15), gl_take := (PySem.W.mg_of X G a15), fl_pick := f16, dl_pick := _, Fl_pick := (fun_mk (st := sl_pick) l16 c16 k16), gl_pick := (PySem.W.mg_of X G a16), fl_kept_words := f17, dl_kept_words := _, Fl_kept_words := (fun_mk (st := sl_kept_words) l17 c17 k17), gl_kept_words := (PySem.W.mg_of X G a17), fl_fresh := f18, dl_fresh := _, Fl_fresh := (fun_mk (st := sl_fresh) l18 c18 k18), gl_fresh := (PySem.W.mg_of X G a18), fl_way := f19, dl_way := _, Fl_way := (fun_mk (st := sl_way) l19 c19 k19), gl_way := (PySem.W.mg_of X G a19), fl_plain := f20, dl_plain := _, Fl_plain := (fun_mk (st := sl_plain) l20 c20 k20), gl_plain := (PySem.W.mg_of X G a20), fl_bodies := f21, dl_bodies := _, Fl_bodies := (fun_mk (st := sl_bodies) l21 c21 k21), gl_bodies := (PySem.W.mg_of X G a21), fl_every := f22, dl_every := _, Fl_every := (fun_mk (st := sl_every) l22 c22 k22), gl_every := (PySem.W.mg_of X G a22), fl_figured := f23, dl_figured := _, Fl_figured := (fun_mk (st := sl_figured) l23 c23 k23), gl_figured := (PySem.W.mg_of X G a23), fl_weight_in := f24, dl_weight_in := _, Fl_weight_in := (fun_mk (st := sl_weight_in) l24 c24 k24), gl_weight_in := (PySem.W.mg_of X G a24), fl_weight := f25, dl_weight := _, Fl_weight := (fun_mk (st := sl_weight) l25 c25 k25), gl_weight := (PySem.W.mg_of X G a25), fl_calls := f26, dl_calls := _, Fl_calls := (fun_mk (st := sl_calls) l26 c26 k26), gl_calls := (PySem.W.mg_of X G a26), fl_chain := f27, dl_chain := _, Fl_chain := (fun_mk (st := sl_chain) l27 c27 k27), gl_chain := (PySem.W.mg_of X G a27), fl_some_end := f28, dl_some_end := _, Fl_some_end := (fun_mk (st := sl_some_end) l28 c28 k28), gl_some_end := (PySem.W.mg_of X G a28), fl_leaf := f29, dl_leaf := _, Fl_leaf := (fun_mk (st := sl_leaf) l29 c29 k29), gl_leaf := (PySem.W.mg_of X G a29), fl_drawn_thing := f30, dl_drawn_thing := _, Fl_drawn_thing := (fun_mk (st := sl_drawn_thing) l30 c30 k30), gl_drawn_thing := (PySem.W.mg_of X G a30), fl_drawn_body := f31, dl_drawn_body := _, Fl_drawn_body := (fun_mk (st := sl_drawn_body) l31 c31 k31), gl_drawn_body := (PySem.W.mg_of X G a31), fl_more_plan := f32, dl_more_plan := _, Fl_more_plan := (fun_mk (st := sl_more_plan) l32 c32 k32), gl_more_plan := (PySem.W.mg_of X G a32), fl_drawn_plans := f33, dl_drawn_plans := _, Fl_drawn_plans := (fun_mk (st := sl_drawn_plans) l33 c33 k33), gl_drawn_plans := (PySem.W.mg_of X G a33), fl_with_way := f34, dl_with_way := _, Fl_with_way := (fun_mk (st := sl_with_way) l34 c34 k34), gl_with_way := (PySem.W.mg_of X G a34), fl_comes := f35, dl_comes := _, Fl_comes := (fun_mk (st := sl_comes) l35 c35 k35), gl_comes := (PySem.W.mg_of X G a35), fl_walk_thing := f36, dl_walk_thing := _, Fl_walk_thing := (fun_mk (st := sl_walk_thing) l36 c36 k36), gl_walk_thing := (PySem.W.mg_of X G a36), fl_walk_body := f37, dl_walk_body := _, Fl_walk_body := (fun_mk (st := sl_walk_body) l37 c37 k37), gl_walk_body := (PySem.W.mg_of X G a37), fl_walk := f38, dl_walk := _, Fl_walk := (fun_mk (st := sl_walk) l38 c38 k38), gl_walk := (PySem.W.mg_of X G a38), fl_same := f39, dl_same := _, Fl_same := (fun_mk (st := sl_same) l39 c39 k39), gl_same := (PySem.W.mg_of X G a39), flaw := f40, dlaw := _, Flaw := (fun_mk (st := slaw) l40 c40 k40), glaw := (PySem.W.mg_of X G a40), mabs := PySem.W.mg_none_of X G z1, mall := PySem.W.mg_none_of X G z2, mbool := PySem.W.mg_none_of X G z3, mdict := PySem.W.mg_none_of X G z4, mint := PySem.W.mg_none_of X G z5, misinstance := PySem.W.mg_none_of X G z6, mlen := PySem.W.mg_none_of X G z7, mlist := PySem.W.mg_none_of X G z8, mmax := PySem.W.mg_none_of X G z9, mrange := PySem.W.mg_none_of X G z10, mrepr := PySem.W.mg_none_of X G z11, msorted := PySem.W.mg_none_of X G z12, mstr := PySem.W.mg_none_of X G z13, mtuple := PySem.W.mg_none_of X G z14, mzip := PySem.W.mg_none_of X G z15, cMOST_VISITS := ⟨_, PySem.W.mg_of X G v1, ⟨_, rfl⟩⟩, aSTEPS := da1, cSTEPS := ⟨_, PySem.W.mg_of X G dv1, rfl⟩, eSTEPS := de1, nSTEPS := dn1, DSTEPS := ⟨dl1, dk1, dw1⟩, kSTEPS_step := ⟨_, _, _, dl1, dk1, dx1_0, rfl⟩, sSTEPS_step := dx1_0, kSTEPS_for := ⟨_, _, _, dl1, dk1, dx1_1, rfl⟩, sSTEPS_for := dx1_1, kSTEPS_if := ⟨_, _, _, dl1, dk1, dx1_2, rfl⟩, sSTEPS_if := dx1_2, kSTEPS_double := ⟨_, _, _, dl1, dk1, dx1_3, rfl⟩, sSTEPS_double := dx1_3, kSTEPS_call := ⟨_, _, _, dl1, dk1, dx1_4, rfl⟩, sSTEPS_call := dx1_4 }, ?_⟩
  cases e
  rfl
end K08
open PySem PySem.W PyProof.Rows
set_option maxRecDepth 100000 in
set_option maxHeartbeats 0 in
theorem PySem.Challenge.cw_outgrow_k08_steps_walked_holds : PySem.Challenge.rw_outgrow_k08_steps_walked.Holds := by
  w_on; o_law; k_head; (case hw => w_witness2)
  k_fill
  refine OG.walk_ofG (l := PySem.Challenge.rw_outgrow_k08_steps_walked) (n := 63) (k := 40) (x := "_law_script") (sp := fun w => OG.spLaw _) rfl (by decide) rfl ⟨rfl, by decide, by decide⟩ (fun w h Y => PySem.W.kIn_of Y) ?F (fun _ _ a ns hl _ hS => ⟨a, ns, rfl, hS, hl, fun _ => rfl⟩)
  case F =>
    intro w mg fa h KX G hmg
    have hT := K08.all_mk (w := w) KX G hmg (by k_is) (by k_is) (by k_is) (by k_is) (by k_is) (by k_is) (by k_is) (by k_is) (by k_is) (by k_is) (by k_is) (by k_is) (by k_is) (by k_is) (by k_is) (by k_is) (by k_is) (by k_is) (by k_is) (by k_is) (by k_is) (by k_is) (by k_is) (by k_is) (by k_is) (by k_is) (by k_is) (by k_is) (by k_is) (by k_is) (by k_is) (by k_is) (by k_is) (by k_is) (by k_is) (by k_is) (by k_is) (by k_is) (by k_is) (by k_is) (by k_is) (by k_is) (by k_is) (by k_is) (by k_is) (by k_is) (by k_is) (by k_is) (by k_is) (by k_is) (by k_is) (by k_is) (by k_is) (by k_is) (by k_is) (by k_is) (by k_is) (by k_is) (by k_is) (by k_is) (by k_is) (by k_is) (by k_is) (by k_is) (by k_is) (by k_is) (by k_is) (by k_is) (by k_is) (by k_is) (by k_is) (by k_is) (by k_is) (by k_is) (by k_is) (by k_is) (by k_is) (by k_is) (by k_is) (by k_is) (by k_is) (by k_is) (by k_is) (by k_is) (by k_is) (by k_is) (by k_is) (by k_is) (by k_is) (by k_is) (by k_is) (by k_is) (by k_is) (by k_is) (by k_is) (by k_is) (by k_is) (by k_is) (by k_is) (by k_is) (by k_is) (by k_is) (by k_is) (by k_is) (by k_is) (by k_is) (by k_is) (by k_is) (by k_is) (by k_is) (by k_is) (by k_is) (by k_is) (by k_is) (by k_is) (by k_is) (by k_is) (by k_is) (by k_is) (by k_is) (by k_is) (by k_is) (by k_is) (by k_is) (by k_is) (by k_is) (by k_is) (by k_is) (by k_is) (by k_is) (by k_is) (by k_is) (by k_is) (by k_is) (by k_is) (by k_is) (by k_is) (by k_is) (by k_is) (by k_is) (by k_is) (by k_is) (by k_is) (by k_is) (by k_is) (by k_is) (by k_is) (by k_is) (by k_is) (by k_is) (by k_is) (by k_is) (by k_is) (by k_is) (by k_is) (by k_is) (by k_is) (by k_is) (by k_is) (by k_is) (by k_is) (by k_is) (by k_is) (by k_is) (by k_is) (by k_is) (by k_is) (by k_is) (by k_is) (by k_is) (by k_is) (by k_is) (by k_is) (by k_is) (by k_is) (by k_is) (by k_is) (by k_is) (by k_is) (by k_is) (by k_is) (by k_is) (by k_is) (by k_is) (by k_is) (by k_is) (by k_is) (by k_is) (by k_is) (by k_is) (by exact ⟨⟨_, _, rfl, rfl⟩, ⟨_, _, rfl, rfl⟩, ⟨_, _, rfl, rfl⟩, ⟨_, _, rfl, rfl⟩, ⟨_, _, rfl, rfl⟩, trivial⟩) (by rfl) (by k_is) (by k_is) (by k_is) (by k_is) (by k_is)
    obtain ⟨T, rfl⟩ := hT
    exact ⟨T.dlaw, T.blaw, fun base _ _ => K08.run_law T⟩
