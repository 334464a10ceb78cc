import PyProof.Rows.All
import Wide.All
import OpenK.AllK
import Wide.FinOn
import HandS.ForMost
import HandS.Walk
import HandS.Codes
import HandS.IsInst
import HandS.Style
import HandS.TupAny
import HandS.FStr
import HandS.CallLocal
import HandS.More
import HandS.Zip
import HandS.Star
import HandS.SortRule
import HandS.Conv
import HandS.Wide
import HandS.WideBits
import PyProof.ReprRoads
import PyProof.ReprBulk
import HandS.RevRange
import HandS.Iter
import HandS.Flt
import HandS.SortKw
import HandS.SetFor
import HandS.Strs
import HandS.DictComp
import KE.KDictCopyH
import KE.DataAny
import KE.DataMinMax
import HandS.TryMany
import HandS.Exc
import HandS.ExcInit
import HandS.ExcIs
import HandS.ExcField
import HandS.HotCalls
import HandS.Lambda
import HandS.ClsMeth
import KE.KExcIs
import KE.DatumOrd
import KE.KEqDict
import HandS.WordsExc
import HandS.Defaults
import HandS.EndOwn
import HandS.SetKeys
import PySem.Challenge.RW_outgrow_k18_figures_outgrown
set_option Elab.async false
set_option linter.all false
set_option maxRecDepth 100000
set_option maxHeartbeats 4000000
namespace OG
open PySem PySem.Spec PyProof.Rows L2
open C8 (pss_cut pe_gc)

/-! ### heaps -/
theorem same_new {H : Hp} {p : Addr} {o : HO} (h : H p = none) : Same H (upd H p o) := fun b u e => by
  rw [upd_ne (ne_of_none e h)]
  exact e
/-- only the object at d may differ -/
def But (d : Addr) (H H' : Hp) : Prop := ∀ b, b ≠ d → H' b = H b
theorem But.refl (d : Addr) (H : Hp) : But d H H := fun _ _ => rfl
theorem But.trans {d : Addr} {H H1 H2 : Hp} (a : But d H H1) (b : But d H1 H2) : But d H H2 := fun x h => (b x h).trans (a x h)
theorem but_upd {d : Addr} {H : Hp} {o : HO} : But d H (upd H d o) := fun _ h => upd_ne h
/-- all that was tracked stands as it was, but for what M tells -/
def Sx (M : Addr → Prop) (H H' : Hp) : Prop := ∀ b u, ¬ M b → H b = some u → H' b = some u
theorem Sx.refl (M : Addr → Prop) (H : Hp) : Sx M H H := fun _ _ _ h => h
theorem Sx.trans {M : Addr → Prop} {H H1 H2 : Hp} (a : Sx M H H1) (b : Sx M H1 H2) : Sx M H H2 := fun c u n h => b c u n (a c u n h)
theorem Sx.of_same {M : Addr → Prop} {H H' : Hp} (a : Same H H') : Sx M H H' := fun b u _ h => a b u h
theorem Sx.of_but {M : Addr → Prop} {d : Addr} {H H' : Hp} (a : But d H H') (m : M d) : Sx M H H' := fun b u n h => by
  rw [a b (fun e => n (e ▸ m))]
  exact h
theorem Sx.mono {M N : Addr → Prop} {H H' : Hp} (a : Sx M H H') (h : ∀ b, M b → N b) : Sx N H H' := fun b u n e => a b u (fun m => n (h b m)) e
theorem Sx.upd_in {M : Addr → Prop} {H H' : Hp} {p : Addr} {o : HO} (a : Sx M H H') (m : M p) : Sx M H (upd H' p o) := fun b u n e => by
  have z : b ≠ p := fun z => n (by rw [z]; exact m)
  rw [upd_ne z]
  exact a b u n e
/-- what was not tracked ahead may be written -/
theorem Sx.upd_new {M : Addr → Prop} {H H' : Hp} {p : Addr} {o : HO} (a : Sx M H H') (h : H p = none) : Sx M H (upd H' p o) := fun b u n e => by
  rw [upd_ne (ne_of_none e h)]
  exact a b u n e
theorem Same.upd_new {H H' : Hp} {p : Addr} {o : HO} (a : Same H H') (h : H p = none) : Same H (upd H' p o) := fun b u e => by
  rw [upd_ne (ne_of_none e h)]
  exact a b u e
theorem but_none {d : Addr} {H H' : Hp} (a : But d H H') {p : Addr} (h : H' p = none) (hd : ∃ u, H' d = some u) : H p = none := by
  by_cases e : p = d
  · subst e
    obtain ⟨u, q⟩ := hd
    rw [q] at h
    cases h
  · rw [← a p e]
    exact h
theorem sz {n : Nat} (h : n ≤ 100000) : n ≤ sizeLine := Nat.le_trans h (by decide)
theorem szl {n : Nat} (h : n < 100000) : n < sizeLine := Nat.lt_of_lt_of_le h (by decide)

/-! ### texts -/
abbrev S (l : List Nat) : Str := ⟨l.toArray⟩
abbrev tl (x : Str) : List Nat := x.cps.toList
theorem S_tl (x : Str) : S (tl x) = x := by cases x; rfl
theorem len_tl (x : Str) : x.length = (tl x).length := by simp [Str.length, tl]
theorem len_S (l : List Nat) : (S l).length = l.length := by simp [Str.length, S]
theorem tl_S (l : List Nat) : tl (S l) = l := rfl

/-! ### the drawing -/
/-- the drawing's own list at d: the script's copy at L, a place, a rest, a seed -/
def Dr (H : Hp) (d L : Addr) : Prop := ∃ (ns : List Int) (i r s : Int), H d = some (.lst [.ref L, .int i, .int r, .int s]) ∧ H L = some (.lst (ns.map V.int)) ∧ 0 ≤ i ∧ 0 ≤ r ∧ 0 ≤ s ∧ s < 2147483647
theorem Dr.ne {H : Hp} {d L : Addr} (h : Dr H d L) : L ≠ d := by
  obtain ⟨ns, i, r, s, hd, hL, _⟩ := h
  refine ne_of hL hd fun z => ?_
  have z2 := HO.lst.inj z
  cases ns with
  | nil => cases z2
  | cons n r =>
    have z3 := (List.cons.inj z2).1
    cases z3
theorem Dr.some {H : Hp} {d L : Addr} (h : Dr H d L) : ∃ u, H d = some u := by
  obtain ⟨ns, i, r, s, hd, _⟩ := h
  exact ⟨_, hd⟩
theorem Dr.someL {H : Hp} {d L : Addr} (h : Dr H d L) : ∃ u, H L = Option.some u := by
  obtain ⟨ns, i, r, s, hd, hL, _⟩ := h
  exact ⟨_, hL⟩
theorem Dr.same {H H' : Hp} {d L : Addr} (h : Dr H d L) (a : Same H H') : Dr H' d L := by
  obtain ⟨ns, i, r, s, hd, hL, q⟩ := h
  exact ⟨ns, i, r, s, a _ _ hd, a _ _ hL, q⟩
theorem Dr.at {H H' : Hp} {d L : Addr} (h : Dr H d L) (a : H' d = H d) (b : H' L = H L) : Dr H' d L := by
  obtain ⟨ns, i, r, s, hd, hL, q⟩ := h
  exact ⟨ns, i, r, s, a.trans hd, b.trans hL, q⟩
theorem Dr.upd {H : Hp} {d L p : Addr} {o : HO} (h : Dr H d L) (n1 : p ≠ d) (n2 : p ≠ L) : Dr (upd H p o) d L := h.at (upd_ne n1.symm) (upd_ne n2.symm)
theorem Dr.new {H : Hp} {d L p : Addr} {o : HO} (h : Dr H d L) (n : H p = none) : Dr (L2.upd H p o) d L := h.same (same_new n)
theorem Dr.neNew {H : Hp} {d L p : Addr} (h : Dr H d L) (n : H p = none) : p ≠ d ∧ p ≠ L := by
  obtain ⟨u, q⟩ := h.some
  obtain ⟨u2, q2⟩ := h.someL
  exact ⟨(ne_of_none q n).symm, (ne_of_none q2 n).symm⟩
theorem dr_set {H : Hp} {d L : Addr} {ns : List Int} {i r s : Int} (hL : H L = some (.lst (ns.map V.int))) (ne : L ≠ d) (h1 : 0 ≤ i) (h2 : 0 ≤ r) (h3 : 0 ≤ s) (h4 : s < 2147483647) :
    Dr (upd H d (.lst [.ref L, .int i, .int r, .int s])) d L := ⟨ns, i, r, s, upd_same, by rw [upd_ne ne]; exact hL, h1, h2, h3, h4⟩
/-- _law_take(draw, sides) -/
def spTake : Sp := fun vs H Q _ => ∃ (d L : Addr) (k : Int), vs = [.ref d, .int k] ∧ Dr H d L ∧ 1 ≤ k ∧ k < 1073741824 ∧
  ∀ (g : Int) (H' : Hp), 0 ≤ g → g < k → Dr H' d L → But d H H' → Q (.int g) H'
/-- _law_begin(script) -/
def spBegin (K : PySem.W.Frag) : Sp := fun vs H Q _ => ∃ (a : Addr) (ns : List Int), vs = [.ref a] ∧ SqL K H a (ns.map V.int) ∧
  ∀ (d L : Addr) (H' : Hp), Same H H' → H d = none → H L = none → Dr H' d L → Q (.ref d) H'
/-- _law_pick(draw, row), row a text | a list of texts -/
def spPick (K : PySem.W.Frag) : Sp := fun vs H Q _ => ∃ (d L : Addr) (x : V) (n : Nat), vs = [.ref d, x] ∧ Dr H d L ∧ 0 < n ∧ n < 100000 ∧
  ((∃ z : Str, x = .str z ∧ z.length = n ∧ ∀ (c : Nat) (H' : Hp), c ∈ tl z → Dr H' d L → But d H H' → Q (.str ⟨#[c]⟩) H') ∨
   (∃ (a : Addr) (xs : List V), x = .ref a ∧ a ≠ d ∧ SqL K H a xs ∧ xs.length = n ∧ ∀ (y : V) (H' : Hp), y ∈ xs → Dr H' d L → But d H H' → Q y H'))
/-- what a SqL tells stays where its place is not written -/
theorem SqL.but {K : PySem.W.Frag} {H H' : Hp} {d a : Addr} {xs : List V} (h : SqL K H a xs) (b : But d H H') (n : a ≠ d) : SqL K H' a xs := by
  rcases h with (h | ⟨o, h⟩) | h
  · exact .inl (.inl (by rw [b a n]; exact h))
  · exact .inl (.inr ⟨o, by rw [b a n]; exact h⟩)
  · exact .inr h
theorem SqL.sx {K : PySem.W.Frag} {M : Addr → Prop} {H H' : Hp} {a : Addr} {xs : List V} (h : SqL K H a xs) (b : Sx M H H') (n : ¬ M a) : SqL K H' a xs := by
  rcases h with (h | ⟨o, h⟩) | h
  · exact .inl (.inl (b _ _ n h))
  · exact .inl (.inr ⟨o, b _ _ n h⟩)
  · exact .inr h

theorem mod_lt {a k : Int} (h : 1 ≤ k) : 0 ≤ a % k ∧ a % k < k := ⟨Int.emod_nonneg _ (by omega), Int.emod_lt_of_pos _ (by omega)⟩
theorem atI_lt {α : Type} {xs : List α} {g : Int} (h0 : 0 ≤ g) (h1 : g < (xs.length : Int)) : ∃ v, atI xs g = some v ∧ v ∈ xs := by
  have hk : g.toNat < xs.length := by omega
  have e : g = ((g.toNat : Nat) : Int) := by omega
  refine ⟨xs[g.toNat], ?_, List.getElem_mem hk⟩
  have q : atI xs ((g.toNat : Nat) : Int) = some xs[g.toNat] := atI_nat (List.getElem?_eq_getElem hk)
  rw [← e] at q
  exact q
theorem cut_len (xs : List V) (lo hi : Option Int) : (cutV xs lo hi).length ≤ xs.length := cutV_length xs lo hi
theorem cut_map (ns : List Int) (lo hi : Option Int) : ∃ ms : List Int, cutV (ns.map V.int) lo hi = ms.map V.int := by
  refine ⟨(ns.drop (HT.sIx ns.length 0 lo)).take (HT.sIx ns.length ns.length hi - HT.sIx ns.length 0 lo), ?_⟩
  unfold cutV
  rw [List.length_map, List.map_take, List.map_drop]
/-! ### a comprehension over a text's signs, its element of a plain value -/
theorem lc_str_val {z : Str} {g : TG} {te : TE} {vs : List Nat} {σ : L2.St} {H1 : Hp} {D : Addr} {Qd : Hp → Prop} (f : Nat → V) (i0 : Nat) (hg : g = gName i0) (hw : ∀ v, wipe ((wipe σ vs).set i0 v) vs = wipe σ vs) (hz : z.length < 100000) (hD : H1 D = none)
    (he : ∀ c ∈ tl z, ∀ (H2 : Hp) (Q : VK), Same H1 H2 → Q (f c) H2 → te ((wipe σ vs).set i0 (some (.str ⟨#[c]⟩))) H2 Q)
    (hd : ∀ H', Same H1 H' → H' D = some (.lst ((tl z).map f)) → Qd H') :
    ∃ W : Nat → Nat → Hp → Prop, (∃ m, W 0 m (upd H1 D (.lst []))) ∧ ∀ i m H, W i m H →
      ((Its z).stop i H ∧ Qd H) ∨ ((Its z).go i H ∧ ∃ Nx : Hp → Prop, (∀ H', Nx H' → ∃ m', m' < m ∧ W (i + 1) m' H') ∧ ∀ x H', (Its z).yld i H x H' → g x (wipe σ vs) H' fun σ2 H2 => wipe σ2 vs = wipe σ vs ∧ tYes σ2 H2 fun b H3 =>
        if b = true then te σ2 H3 fun y H4 => ∃ acc, H4 D = some (.lst acc) ∧ acc.length < sizeLine ∧ Nx (upd H4 D (.lst (acc ++ [y]))) else Nx H3) := by
  subst hg
  have el : z.cps.size = (tl z).length := by simp [tl]
  refine lc_it walk_str (fun i H' => Same H1 H' ∧ H' D = some (.lst (((tl z).take i).map f))) ⟨same_new hD, by rw [upd_same]; rfl⟩ (fun _ _ _ _ => trivial) (fun i x H H' hi hP hY => ?_) (fun H' hP => ?_)
  · obtain ⟨rfl, c, hc, rfl⟩ := hY
    obtain ⟨sm, hl⟩ := hP
    have hc2 : (tl z)[i]? = some c := by
      have q : z.cps.toList[i]? = z.cps[i]? := by simp
      exact q.trans hc
    refine ⟨hw _, ?_⟩
    dsimp only [tYes]
    rw [if_pos rfl]
    refine he c (List.mem_of_getElem? hc2) _ _ sm ?_
    refine ⟨_, hl, ?_, ?_, ?_⟩
    · rw [List.length_map, List.length_take]
      have := len_tl z
      exact szl (by omega)
    · exact Same.upd_new sm hD
    · rw [upd_same, List.take_add_one, hc2, List.map_append]
      rfl
  · obtain ⟨sm, hl⟩ := hP
    refine hd H' sm ?_
    rw [el, List.take_length] at hl
    exact hl
theorem yes_go {σ : L2.St} {H : Hp} {A B : Hp → Prop} (h : A H) : tYes σ H (fun b H3 => if b = true then A H3 else B H3) := h
theorem len_app (a b : Str) : (a ++ b).length = a.length + b.length := PySem.Str.length_append a b
theorem join1_len : ∀ cs : List Nat, (TL.joinL [] (cs.map fun c => [c])) = cs
  | [] => rfl
  | [c] => rfl
  | c :: e :: r => by
    have ih := join1_len (e :: r)
    show [c] ++ ([] ++ TL.joinL [] ((e :: r).map fun c => [c])) = c :: e :: r
    rw [ih]
    rfl
/-- ''.join of signs -/
theorem join_signs (cs : List Nat) : Txt.join "" (cs.map fun c => S [c]) = S cs := by
  have e := SX.join_S [] (cs.map fun c => [c])
  rw [join1_len, List.map_map] at e
  exact e
theorem sum_ones : ∀ cs : List Nat, ((cs.map fun c => S [c]).map (·.length)).sum = cs.length
  | [] => rfl
  | c :: r => by
    rw [List.map_cons, List.map_cons, List.sum_cons, sum_ones r, len_S, List.length_cons, List.length_cons]
    simp
    omega
theorem cutS_len (z : Str) (lo hi : Option Int) : (cutS z lo hi).length ≤ z.length := by
  unfold cutS
  rw [len_S, List.length_take, List.length_drop]
  have := len_tl z
  unfold tl at this
  omega
/-! ### rules with the written part by its name, for a comprehension's block -/
section
variable {X : Cx} {K : PySem.W.Frag}
theorem ix_listK (h : X.K = K) : IxR X (rIxL K) := h ▸ ix_list
theorem ix_tupK (h : X.K = K) : IxR X (rIxT K) := h ▸ ix_tup
theorem ix_seqK (h : X.K = K) : IxR X (rIx K) := h ▸ ix_seq
theorem op_in_seqK (h : X.K = K) : OpR X (compareOp .In) (rIn K false) := h ▸ op_in_seq
theorem op_notIn_seqK (h : X.K = K) : OpR X (compareOp .NotIn) (rIn K true) := h ▸ op_notIn_seq
theorem op_eqDK (h : X.K = K) (hu : X.A.units + 64 < cLine) : OpR X (compareOp .Eq) (rEqD K) := h ▸ op_eqD hu
theorem op_neDK (h : X.K = K) (hu : X.A.units + 64 < cLine) : OpR X (compareOp .NotEq) (rNeD K) := h ▸ op_neD hu
theorem sl_listK (h : X.K = K) : SlR X (rSlL K) := h ▸ sl_list
theorem call_len_seqK (h : X.K = K) : CallR X (.builtin "len") (fun xs H Q => ∃ p ys, xs = [.ref p] ∧ (SqL K H p ys ∨ SqT K H p ys) ∧ Q (.int ys.length) H) := by
  subst h
  exact call_len_seq
end
end OG

set_option Elab.async false
set_option linter.all false
set_option maxRecDepth 100000
set_option maxHeartbeats 4000000
namespace OG
open PySem PySem.Spec PyProof.Rows L2
/-! ### text * number -/
def rRepS : R2 := fun x y H Q => ∃ (z : Str) (k : Int), x = .str z ∧ y = .int k ∧ -(2 ^ 62) ≤ k ∧ k < 2 ^ 62 ∧ z.length * k.toNat ≤ 100000 ∧ Q (.str (S (List.replicate k.toNat (tl z)).flatten)) H
theorem fold_rep (a : Array Nat) : ∀ (k : Nat) (acc : Array Nat), (List.foldl (fun x y => x ++ y) acc (List.replicate k a)) = acc ++ (List.replicate k a.toList).flatten.toArray
  | 0, acc => by simp
  | k + 1, acc => by
    rw [List.replicate_succ, List.foldl_cons, fold_rep a k (acc ++ a), List.replicate_succ, List.flatten_cons, Array.append_assoc]
    congr 1
    apply Array.ext'
    simp
theorem op_repS {X : Cx} : OpR X (binaryOp .Mult) rRepS := by
  intro pins s σ H x y v u Q I rx ry h
  obtain ⟨z, k, rfl, rfl, h1, h2, hz, q⟩ := h
  obtain ⟨t, rfl⟩ := rx
  obtain ⟨t', rfl⟩ := ry
  refine PySem.P.mul_str ?_ (fun a b => ?_) (fun a b => ?_) ?_
  · rw [decide_eq_false (by omega), decide_eq_false (by omega)]; rfl
  · have hk : 0 < k := by omega
    have e : ((z.length * k.toNat : Nat) : Int) ≤ 100000 := Int.ofNat_le.mpr hz
    have e2 : ((z.length * k.toNat : Nat) : Int) = (z.length : Int) * k := by
      rw [Int.natCast_mul, Int.toNat_of_nonneg (by omega)]
    intro hc
    have h3 : (z.length : Int) ≤ (2 ^ 63 - 1) / k := by
      rw [Int.le_ediv_iff_mul_le hk]
      rw [← e2]
      omega
    omega
  · unfold PySem.Builtin.Str.tooLong
    exact decide_eq_false (Nat.not_lt.mpr (sz hz))
  · by_cases c1 : k < 1
    · rw [if_pos c1]
      have e : k.toNat = 0 := by omega
      rw [e] at q
      exact ⟨by decide, .str Str.empty, H, I.tok _, ⟨_, rfl⟩, q⟩
    · rw [if_neg c1]
      by_cases c2 : (k == 1 || z.length == 0) = true
      · rw [if_pos c2]
        have e : S (List.replicate k.toNat (tl z)).flatten = z := by
          rcases Bool.or_eq_true_iff.mp c2 with c3 | c3
          · have e1 : k = 1 := by simpa using c3
            rw [e1]
            show S ((tl z) ++ []) = z
            rw [List.append_nil, S_tl]
          · have e1 : z.length = 0 := by simpa using c3
            have e2 : tl z = [] := List.eq_nil_of_length_eq_zero (by rw [← len_tl]; exact e1)
            have e3 : ∀ n : Nat, (List.replicate n ([] : List Nat)).flatten = [] := fun n => by
              induction n with
              | zero => rfl
              | succ n ih => rw [List.replicate_succ, List.flatten_cons, ih]; rfl
            rw [e2, e3, ← e2, S_tl]
        rw [e] at q
        exact ⟨.str z, H, I, ⟨_, rfl⟩, q⟩
      · rw [if_neg c2]
        have e : (⟨(List.replicate k.toNat z.cps).foldl (· ++ ·) #[]⟩ : Str) = S (List.replicate k.toNat (tl z)).flatten := by
          have := fold_rep z.cps k.toNat #[]
          rw [this]
          simp [S, tl]
        rw [e]
        refine ⟨?_, .str _, H, I.tok _, ⟨_, rfl⟩, q⟩
        have : (S (List.replicate k.toNat (tl z)).flatten).length ≤ 100000 := by
          rw [len_S, List.length_flatten]
          rw [List.map_replicate, List.sum_replicate_nat, Nat.mul_comm]
          rw [← len_tl]
          exact hz
        first
          | exact sz this
          | (unfold PySem.Builtin.Str.tooLong; exact decide_eq_false (Nat.not_lt.mpr (sz this)))
          | (show _ = _; unfold PySem.Builtin.Str.tooLong; exact decide_eq_false (Nat.not_lt.mpr (sz this)))
end OG

set_option Elab.async false
set_option linter.all false
set_option maxRecDepth 100000
set_option maxHeartbeats 4000000
namespace OG
open PySem PySem.Spec PyProof.Rows L2

/-! ### data of tuples -/
inductive D where
  | non
  | bl (b : Bool)
  | int (n : Int)
  | str (z : Str)
  | tup (xs : List D)
mutual
/-- v stands for the datum -/
def Rp (H : Hp) : V → D → Prop
  | v, .non => v = .non
  | v, .bl b => v = .bl b
  | v, .int n => v = .int n
  | v, .str z => v = .str z
  | v, .tup xs => ∃ (a : Addr) (vs : List V), v = .ref a ∧ H a = some (.tup vs) ∧ RpL H vs xs
def RpL (H : Hp) : List V → List D → Prop
  | vs, [] => vs = []
  | vs, x :: xs => ∃ (v : V) (r : List V), vs = v :: r ∧ Rp H v x ∧ RpL H r xs
end
/-- tuples stay -/
def Imm (H H' : Hp) : Prop := ∀ b xs, H b = some (.tup xs) → H' b = some (.tup xs)
theorem Imm.refl (H : Hp) : Imm H H := fun _ _ h => h
theorem Imm.trans {H H1 H2 : Hp} (a : Imm H H1) (b : Imm H1 H2) : Imm H H2 := fun c xs h => b c xs (a c xs h)
theorem Imm.same {H H' : Hp} (a : Same H H') : Imm H H' := fun b xs h => a b _ h
theorem Imm.upd {H H' : Hp} {p : Addr} {o : HO} (a : Imm H H') (n : ∀ xs, H p ≠ some (.tup xs)) : Imm H (upd H' p o) := fun b xs h => by
  have e : b ≠ p := fun z => n xs (by rw [← z]; exact h)
  rw [upd_ne e]
  exact a b xs h
theorem Imm.but {H H' : Hp} {d : Addr} {l : List V} (a : But d H H') (h : H d = some (.lst l)) : Imm H H' := fun b xs e => by
  have n : b ≠ d := fun z => by
    rw [z, h] at e
    cases e
  rw [a b n]
  exact e
theorem Dr.imm {H H' : Hp} {d L : Addr} (h : Dr H d L) (a : But d H H') : Imm H H' := by
  obtain ⟨ns, i, r, s, hd, _⟩ := h
  exact Imm.but a hd
mutual
theorem Rp.imm {H H' : Hp} (m : Imm H H') : ∀ (x : D) (v : V), Rp H v x → Rp H' v x
  | .non, _, h => h
  | .bl _, _, h => h
  | .int _, _, h => h
  | .str _, _, h => h
  | .tup xs, _, h => by
    obtain ⟨a, vs, e, q, r⟩ := h
    exact ⟨a, vs, e, m _ _ q, RpL.imm m xs vs r⟩
theorem RpL.imm {H H' : Hp} (m : Imm H H') : ∀ (xs : List D) (vs : List V), RpL H vs xs → RpL H' vs xs
  | [], _, h => h
  | x :: xs, _, h => by
    obtain ⟨v, r, e, q, t⟩ := h
    exact ⟨v, r, e, Rp.imm m x v q, RpL.imm m xs r t⟩
end
theorem Rp.to {H H' : Hp} {x : D} {v : V} (h : Rp H v x) (m : Imm H H') : Rp H' v x := Rp.imm m x v h
theorem RpL.to {H H' : Hp} {xs : List D} {vs : List V} (h : RpL H vs xs) (m : Imm H H') : RpL H' vs xs := RpL.imm m xs vs h
theorem RpL.length {H : Hp} : ∀ {xs : List D} {vs : List V}, RpL H vs xs → vs.length = xs.length
  | [], _, h => by rw [show _ = [] from h]; rfl
  | x :: xs, _, h => by
    obtain ⟨v, r, e, _, t⟩ := h
    rw [e, List.length_cons, List.length_cons, RpL.length t]
theorem RpL.get {H : Hp} : ∀ {xs : List D} {vs : List V} {i : Nat} {v : V}, RpL H vs xs → vs[i]? = some v → ∃ x, xs[i]? = some x ∧ Rp H v x
  | [], _, i, v, h, g => by
    rw [show _ = [] from h] at g
    simp at g
  | x :: xs, _, 0, v, h, g => by
    obtain ⟨u, r, e, q, t⟩ := h
    rw [e] at g
    have : u = v := Option.some.inj g
    exact ⟨x, rfl, this ▸ q⟩
  | x :: xs, _, i + 1, v, h, g => by
    obtain ⟨u, r, e, q, t⟩ := h
    rw [e] at g
    exact RpL.get (xs := xs) (i := i) t g
theorem RpL.append {H : Hp} : ∀ {xs ys : List D} {vs ws : List V}, RpL H vs xs → RpL H ws ys → RpL H (vs ++ ws) (xs ++ ys)
  | [], _, _, _, h, k => by rw [show _ = [] from h]; exact k
  | x :: xs, ys, _, ws, h, k => by
    obtain ⟨u, r, e, q, t⟩ := h
    rw [e]
    exact ⟨u, r ++ ws, rfl, q, RpL.append t k⟩
theorem RpL.take {H : Hp} : ∀ {xs : List D} {vs : List V} (n : Nat), RpL H vs xs → RpL H (vs.take n) (xs.take n)
  | _, _, 0, _ => rfl
  | [], _, n + 1, h => by rw [show _ = [] from h]; rfl
  | x :: xs, _, n + 1, h => by
    obtain ⟨u, r, e, q, t⟩ := h
    rw [e]
    exact ⟨u, r.take n, rfl, q, RpL.take n t⟩
theorem RpL.drop {H : Hp} : ∀ {xs : List D} {vs : List V} (n : Nat), RpL H vs xs → RpL H (vs.drop n) (xs.drop n)
  | _, _, 0, h => h
  | [], _, n + 1, h => by rw [show _ = [] from h]; rfl
  | x :: xs, _, n + 1, h => by
    obtain ⟨u, r, e, q, t⟩ := h
    rw [e]
    exact RpL.drop n t
theorem rpl_nil {H : Hp} : RpL H [] [] := rfl
theorem rpl_cons {H : Hp} {v : V} {vs : List V} {x : D} {xs : List D} (h : Rp H v x) (t : RpL H vs xs) : RpL H (v :: vs) (x :: xs) := ⟨v, vs, rfl, h, t⟩
theorem rp_tup {H : Hp} {a : Addr} {vs : List V} {xs : List D} (h : H a = some (.tup vs)) (t : RpL H vs xs) : Rp H (.ref a) (.tup xs) := ⟨a, vs, rfl, h, t⟩
theorem rp_t2 {H : Hp} {v : V} {x y : D} (h : Rp H v (.tup [x, y])) : ∃ a v1 v2, v = .ref a ∧ H a = some (.tup [v1, v2]) ∧ Rp H v1 x ∧ Rp H v2 y := by
  obtain ⟨a, vs, e, q, v1, r1, rfl, h1, v2, r2, rfl, h2, rfl⟩ := h
  exact ⟨a, v1, v2, e, q, h1, h2⟩
theorem rp_t3 {H : Hp} {v : V} {x y z : D} (h : Rp H v (.tup [x, y, z])) : ∃ a v1 v2 v3, v = .ref a ∧ H a = some (.tup [v1, v2, v3]) ∧ Rp H v1 x ∧ Rp H v2 y ∧ Rp H v3 z := by
  obtain ⟨a, vs, e, q, v1, r1, rfl, h1, v2, r2, rfl, h2, v3, r3, rfl, h3, rfl⟩ := h
  exact ⟨a, v1, v2, v3, e, q, h1, h2, h3⟩
theorem rp_t5 {H : Hp} {v : V} {x y z u w : D} (h : Rp H v (.tup [x, y, z, u, w])) : ∃ a v1 v2 v3 v4 v5, v = .ref a ∧ H a = some (.tup [v1, v2, v3, v4, v5]) ∧ Rp H v1 x ∧ Rp H v2 y ∧ Rp H v3 z ∧ Rp H v4 u ∧ Rp H v5 w := by
  obtain ⟨a, vs, e, q, v1, r1, rfl, h1, v2, r2, rfl, h2, v3, r3, rfl, h3, v4, r4, rfl, h4, v5, r5, rfl, h5, rfl⟩ := h
  exact ⟨a, v1, v2, v3, v4, v5, e, q, h1, h2, h3, h4, h5⟩

/-! ### names -/
def kept : List Str := ["step", "for", "from", "to", "if", "else", "double", "call", "with", "again", "on", "halves", "thirds", "less", "n"]
theorem kept_split : (Txt.split "step for from to if else double call with again on halves thirds less n" " ") = kept := by decide +kernel
def spKept : Sp := fun vs H Q _ => vs = [] ∧ ∀ (p : Addr) (H' : Hp), H p = none → H' = upd H p (.lst (kept.map V.str)) → Q (.ref p) H'
def abc : List Nat := tl "abcdefghijklmnopqrstuvwxyz"
/-- whether a text is a name -/
def nameB (z : Str) : Bool := (!inV (.str z) (kept.map V.str) && (decide ((1 : Int) ≤ (z.length : Int)) && decide ((z.length : Int) ≤ 8))) && ((tl z).map (fun c => decide (c ∈ tl "abcdefghijklmnopqrstuvwxyz"))).all id
def spName : Sp := fun vs H Q _ => ∃ z : Str, vs = [.str z] ∧ z.length < 100000 ∧ ∀ H', Same H H' → Q (.bl (nameB z)) H'
theorem inV_str (z : Str) : ∀ ys : List Str, inV (.str z) (ys.map V.str) = decide (z ∈ ys)
  | [] => rfl
  | y :: r => by
    have ih := inV_str z r
    unfold inV at ih ⊢
    rw [List.map_cons, List.any_cons, ih]
    show ((y == z) || decide (z ∈ r)) = decide (z ∈ y :: r)
    by_cases h : y = z
    · subst h
      simp
    · have h2 : (y == z) = false := by simpa using h
      have h3 : ¬ z = y := fun e => h e.symm
      rw [h2, Bool.false_or]
      by_cases h4 : z ∈ r
      · rw [decide_eq_true h4, decide_eq_true (List.mem_cons_of_mem _ h4)]
      · rw [decide_eq_false h4, decide_eq_false (fun h5 => (List.mem_cons.mp h5).elim h3 h4)]
theorem name_of {cs : List Nat} (h0 : 1 ≤ cs.length) (h8 : cs.length ≤ 8) (hk : S cs ∉ kept) (hc : ∀ c ∈ cs, c ∈ abc) : nameB (S cs) = true := by
  unfold nameB
  rw [inV_str, decide_eq_false hk, len_S]
  rw [decide_eq_true (by omega), decide_eq_true (by omega)]
  have : ((tl (S cs)).map (fun c => decide (c ∈ tl "abcdefghijklmnopqrstuvwxyz"))).all id = true := by
    rw [List.all_eq_true]
    intro b hb
    obtain ⟨c, hc2, rfl⟩ := List.mem_map.mp hb
    exact decide_eq_true (hc c hc2)
  rw [this]
  rfl
theorem name_len {z : Str} (h : nameB z = true) : 1 ≤ z.length ∧ z.length ≤ 8 := by
  unfold nameB at h
  simp only [Bool.and_eq_true, decide_eq_true_eq] at h
  omega
theorem name_abc {z : Str} (h : nameB z = true) : ∀ c ∈ tl z, c ∈ abc := by
  unfold nameB at h
  have h2 := (Bool.and_eq_true_iff.mp h).2
  rw [List.all_eq_true] at h2
  intro c hc
  exact of_decide_eq_true (h2 _ (List.mem_map.mpr ⟨c, hc, rfl⟩))
theorem name_kept {z : Str} (h : nameB z = true) : z ∉ kept := by
  unfold nameB at h
  rw [inV_str] at h
  intro hk
  rw [decide_eq_true hk] at h
  cases h
theorem name_two : ∀ c ∈ abc, nameB (S [c, c]) = true := by
  have h : abc.all (fun c => nameB (S [c, c])) = true := by decide +kernel
  exact fun c hc => List.all_eq_true.mp h c hc

/-! ### plans -/
inductive Thing where
  | step (k : Int)
  | loop (x : Str) (a b : Str × Int) (body : List Thing)
  | test (a b : Str × Int) (x y : List Thing)
  | twice (body : List Thing)
  | call (x : Str) (e : Str × Int)
  | again (k : Int) (w : Str)
def encE (e : Str × Int) : D := .tup [.str e.1, .int e.2]
mutual
def enc : Thing → D
  | .step k => .tup [.str "step", .int k]
  | .loop x a b body => .tup [.str "for", .str x, encE a, encE b, .tup (encs body)]
  | .test a b x y => .tup [.str "if", encE a, encE b, .tup (encs x), .tup (encs y)]
  | .twice b => .tup [.str "double", .tup (encs b)]
  | .call x e => .tup [.str "call", .str x, encE e]
  | .again k w => .tup [.str "again", .int k, .str w]
def encs : List Thing → List D
  | [] => []
  | t :: r => enc t :: encs r
end
theorem encs_map : ∀ ts : List Thing, encs ts = ts.map enc
  | [] => rfl
  | t :: r => by
    show enc t :: encs r = enc t :: r.map enc
    rw [encs_map r]
theorem encs_append (a b : List Thing) : encs (a ++ b) = encs a ++ encs b := by rw [encs_map, encs_map, encs_map, List.map_append]
theorem encs_length (ts : List Thing) : (encs ts).length = ts.length := by rw [encs_map, List.length_map]
/-- an end that may stand where the names sc may -/
def EndOk (sc : List Str) (e : Str × Int) : Prop := (e.1 = "" ∧ 0 ≤ e.2 ∧ e.2 ≤ 99) ∨ (e.1 ∈ sc ∧ -99 ≤ e.2 ∧ e.2 ≤ 99)
def ScOk (sc : List Str) : Prop := ∀ x ∈ sc, x = "n" ∨ nameB x = true
def AgOk (k : Int) (w : Str) : Prop := 1 ≤ k ∧ k ≤ 9 ∧ (w = "halves" ∨ w = "thirds" ∨ w = "less")
mutual
/-- a thing with at most n brackets within one another, calling only what C tells; again only where A does -/
def TOk (C : Str → Prop) (A : Prop) : List Str → Nat → Thing → Prop
  | _, _, .step k => 0 ≤ k ∧ k ≤ 99
  | sc, n, .loop x a b body => nameB x = true ∧ x ∉ sc ∧ EndOk sc a ∧ EndOk sc b ∧ body ≠ [] ∧ ∃ m, n = m + 1 ∧ TsOk C A (sc ++ [x]) m body
  | sc, n, .test a b x y => EndOk sc a ∧ EndOk sc b ∧ x ≠ [] ∧ ∃ m, n = m + 1 ∧ TsOk C A sc m x ∧ TsOk C A sc m y
  | sc, n, .twice b => b ≠ [] ∧ ∃ m, n = m + 1 ∧ TsOk C A sc m b
  | sc, _, .call x e => nameB x = true ∧ C x ∧ EndOk sc e
  | _, _, .again k w => A ∧ AgOk k w
def TsOk (C : Str → Prop) (A : Prop) : List Str → Nat → List Thing → Prop
  | _, _, [] => True
  | sc, n, t :: r => TOk C A sc n t ∧ TsOk C A sc n r
end
theorem tsok_iff {C : Str → Prop} {A : Prop} {sc : List Str} {n : Nat} : ∀ ts : List Thing, TsOk C A sc n ts ↔ ∀ t ∈ ts, TOk C A sc n t
  | [] => ⟨fun _ _ h => (by cases h), fun _ => trivial⟩
  | t :: r => by
    show (TOk C A sc n t ∧ TsOk C A sc n r) ↔ _
    rw [tsok_iff r]
    constructor
    · rintro ⟨h1, h2⟩ u hu
      rcases List.mem_cons.mp hu with rfl | hu
      · exact h1
      · exact h2 u hu
    · intro h
      exact ⟨h t List.mem_cons_self, fun u hu => h u (List.mem_cons_of_mem _ hu)⟩
mutual
def cntT : Thing → Nat
  | .step _ => 1
  | .loop _ _ _ b => 1 + cntB b
  | .test _ _ x y => 1 + cntB x + cntB y
  | .twice b => 1 + cntB b
  | .call _ _ => 1
  | .again _ _ => 1
def cntB : List Thing → Nat
  | [] => 0
  | t :: r => cntT t + cntB r
end
theorem cntB_append : ∀ a b : List Thing, cntB (a ++ b) = cntB a + cntB b
  | [], b => by show cntB b = 0 + cntB b; omega
  | t :: r, b => by
    show cntT t + cntB (r ++ b) = cntT t + cntB r + cntB b
    rw [cntB_append r b]
    omega

/-! ### a plan's text -/
def numL (i : Int) : List Nat := tl (toString i)
def endL (e : Str × Int) : List Nat :=
  if e.1 = "" then numL e.2 else if e.2 = 0 then tl e.1 else if 0 < e.2 then tl e.1 ++ tl " + " ++ numL e.2 else tl e.1 ++ tl " - " ++ numL (-e.2)
mutual
def thingL : Thing → List Nat
  | .step k => tl "step " ++ numL k
  | .loop x a b body => tl "for " ++ tl x ++ tl " from " ++ endL a ++ tl " to " ++ endL b ++ tl " (" ++ TL.joinL (tl "; ") (thingsL body) ++ tl ")"
  | .test a b x y => tl "if " ++ endL a ++ tl " <= " ++ endL b ++ tl " (" ++ TL.joinL (tl "; ") (thingsL x) ++ tl ")" ++ (match y with
    | [] => []
    | t :: r => tl " else (" ++ TL.joinL (tl "; ") (thingsL (t :: r)) ++ tl ")")
  | .twice b => tl "double (" ++ TL.joinL (tl "; ") (thingsL b) ++ tl ")"
  | .call x e => tl "call " ++ tl x ++ tl " with " ++ endL e
  | .again k w => tl "again " ++ numL k ++ tl " on " ++ tl w
def thingsL : List Thing → List (List Nat)
  | [] => []
  | t :: r => thingL t :: thingsL r
end
def planL (ts : List Thing) : List Nat := TL.joinL (tl "; ") (thingsL ts)
theorem thingsL_map : ∀ ts : List Thing, thingsL ts = ts.map thingL
  | [] => rfl
  | t :: r => by
    show thingL t :: thingsL r = thingL t :: r.map thingL
    rw [thingsL_map r]
theorem str_ext {a b : Str} (h : tl a = tl b) : a = b := by rw [← S_tl a, ← S_tl b, h]
theorem tl_app (a b : Str) : tl (a ++ b) = tl a ++ tl b := TL.tl_append a b
theorem tl_empty : tl Str.empty = [] := rfl
/-! sizes -/
theorem num_small {i : Int} (h0 : -99 ≤ i) (h1 : i ≤ 99) : (numL i).length ≤ 3 ∧ i.natAbs.log2 < 1920 := by
  have e : ∀ n : Nat, n < 199 → (numL ((n : Int) - 99)).length ≤ 3 ∧ ((n : Int) - 99).natAbs.log2 < 1920 := by
    have h : (List.range 199).all (fun n => decide ((numL ((n : Int) - 99)).length ≤ 3) && decide (((n : Int) - 99).natAbs.log2 < 1920)) = true := by decide +kernel
    intro n hn
    have := List.all_eq_true.mp h n (List.mem_range.mpr hn)
    simpa only [Bool.and_eq_true, decide_eq_true_eq] using this
  have q := e (i + 99).toNat (by omega)
  have e2 : (((i + 99).toNat : Nat) : Int) - 99 = i := by omega
  rw [e2] at q
  exact q
theorem end_small {sc : List Str} {e : Str × Int} (hs : ScOk sc) (h : EndOk sc e) : (endL e).length ≤ 14 ∧ e.1.length ≤ 8 ∧ -99 ≤ e.2 ∧ e.2 ≤ 99 := by
  have hl : e.1.length ≤ 8 ∧ -99 ≤ e.2 ∧ e.2 ≤ 99 := by
    rcases h with ⟨h1, h2, h3⟩ | ⟨h1, h2, h3⟩
    · rw [h1]
      exact ⟨by decide +kernel, by omega, h3⟩
    · rcases hs _ h1 with h4 | h4
      · rw [h4]
        exact ⟨by decide +kernel, h2, h3⟩
      · exact ⟨(name_len h4).2, h2, h3⟩
  refine ⟨?_, hl⟩
  have n1 := (num_small hl.2.1 hl.2.2).1
  have n2 := (num_small (i := -e.2) (by omega) (by omega)).1
  have l1 := len_tl e.1
  have p1 : (tl " + ").length = 3 := by decide +kernel
  have p2 : (tl " - ").length = 3 := by decide +kernel
  unfold endL
  split
  · omega
  · split
    · omega
    · split
      · rw [List.length_append, List.length_append]
        omega
      · rw [List.length_append, List.length_append]
        omega
end OG

set_option Elab.async false
set_option linter.all false
set_option maxRecDepth 100000
set_option maxHeartbeats 4000000
namespace OG
open PySem PySem.Spec PyProof.Rows L2
/-! ### sizes of texts -/
theorem joinL_len (s : List Nat) : ∀ ls : List (List Nat), (TL.joinL s ls).length ≤ (ls.map (fun l => l.length + s.length)).sum
  | [] => Nat.le_refl _
  | [p] => by
    show p.length ≤ (p.length + s.length) + 0
    omega
  | p :: q :: r => by
    have ih := joinL_len s (q :: r)
    show (p ++ (s ++ TL.joinL s (q :: r))).length ≤ (p.length + s.length) + ((q :: r).map (fun l => l.length + s.length)).sum
    rw [List.length_append, List.length_append]
    omega
theorem scOk_snoc {sc : List Str} {x : Str} (h : ScOk sc) (n : nameB x = true) : ScOk (sc ++ [x]) := fun y hy => by
  rcases List.mem_append.mp hy with h1 | h1
  · exact h y h1
  · rw [List.mem_singleton.mp h1]
    exact .inr n
mutual
theorem thing_size {C : Str → Prop} {A : Prop} : ∀ (t : Thing) (sc : List Str) (n : Nat), TOk C A sc n t → ScOk sc → (thingL t).length + 2 ≤ 80 * cntT t
  | .step k, sc, n, h, hs => by
    have e := (num_small (i := k) (by have := h.1; omega) h.2).1
    have c : (tl "step ").length = 5 := by decide +kernel
    show (tl "step " ++ numL k).length + 2 ≤ 80 * 1
    rw [List.length_append]
    omega
  | .loop x a b body, sc, n, h, hs => by
    obtain ⟨h1, h2, h3, h4, h5, m, rfl, h6⟩ := h
    have hn := name_len h1
    have e1 := (end_small hs h3).1
    have e2 := (end_small hs h4).1
    have ih := things_size body _ _ h6 (scOk_snoc hs h1)
    have j := joinL_len (tl "; ") (thingsL body)
    have c0 : (tl "; ").length = 2 := by decide +kernel
    have c1 : (tl "for ").length = 4 := by decide +kernel
    have c2 : (tl " from ").length = 6 := by decide +kernel
    have c3 : (tl " to ").length = 4 := by decide +kernel
    have c4 : (tl " (").length = 2 := by decide +kernel
    have c5 : (tl ")").length = 1 := by decide +kernel
    have l := len_tl x
    rw [c0] at j
    show (tl "for " ++ tl x ++ tl " from " ++ endL a ++ tl " to " ++ endL b ++ tl " (" ++ TL.joinL (tl "; ") (thingsL body) ++ tl ")").length + 2 ≤ 80 * (1 + cntB body)
    simp only [List.length_append]
    omega
  | .test a b x y, sc, n, h, hs => by
    obtain ⟨h3, h4, h5, m, rfl, h6, h7⟩ := h
    have e1 := (end_small hs h3).1
    have e2 := (end_small hs h4).1
    have ih := things_size x _ _ h6 hs
    have j := joinL_len (tl "; ") (thingsL x)
    have ih2 := things_size y _ _ h7 hs
    have j2 := joinL_len (tl "; ") (thingsL y)
    have c0 : (tl "; ").length = 2 := by decide +kernel
    have c1 : (tl "if ").length = 3 := by decide +kernel
    have c2 : (tl " <= ").length = 4 := by decide +kernel
    have c4 : (tl " (").length = 2 := by decide +kernel
    have c5 : (tl ")").length = 1 := by decide +kernel
    have c6 : (tl " else (").length = 7 := by decide +kernel
    rw [c0] at j j2
    cases y with
    | nil =>
      show (tl "if " ++ endL a ++ tl " <= " ++ endL b ++ tl " (" ++ TL.joinL (tl "; ") (thingsL x) ++ tl ")" ++ []).length + 2 ≤ 80 * (1 + cntB x + 0)
      simp only [List.length_append, List.length_nil]
      omega
    | cons t r =>
      show (tl "if " ++ endL a ++ tl " <= " ++ endL b ++ tl " (" ++ TL.joinL (tl "; ") (thingsL x) ++ tl ")" ++ (tl " else (" ++ TL.joinL (tl "; ") (thingsL (t :: r)) ++ tl ")")).length + 2 ≤ 80 * (1 + cntB x + cntB (t :: r))
      simp only [List.length_append]
      omega
  | .twice b, sc, n, h, hs => by
    obtain ⟨h5, m, rfl, h6⟩ := h
    have ih := things_size b _ _ h6 hs
    have j := joinL_len (tl "; ") (thingsL b)
    have c0 : (tl "; ").length = 2 := by decide +kernel
    have c1 : (tl "double (").length = 8 := by decide +kernel
    have c5 : (tl ")").length = 1 := by decide +kernel
    rw [c0] at j
    show (tl "double (" ++ TL.joinL (tl "; ") (thingsL b) ++ tl ")").length + 2 ≤ 80 * (1 + cntB b)
    simp only [List.length_append]
    omega
  | .call x e, sc, n, h, hs => by
    have e1 := (end_small hs h.2.2).1
    have hn := name_len h.1
    have c1 : (tl "call ").length = 5 := by decide +kernel
    have c2 : (tl " with ").length = 6 := by decide +kernel
    have l := len_tl x
    show (tl "call " ++ tl x ++ tl " with " ++ endL e).length + 2 ≤ 80 * 1
    simp only [List.length_append]
    omega
  | .again k w, sc, n, h, hs => by
    obtain ⟨_, h1, h2, h3⟩ := h
    have e := (num_small (i := k) (by omega) (by omega)).1
    have c1 : (tl "again ").length = 6 := by decide +kernel
    have c2 : (tl " on ").length = 4 := by decide +kernel
    have c3 : (tl w).length ≤ 6 := by
      rcases h3 with rfl | rfl | rfl
      · decide +kernel
      · decide +kernel
      · decide +kernel
    show (tl "again " ++ numL k ++ tl " on " ++ tl w).length + 2 ≤ 80 * 1
    simp only [List.length_append]
    omega
theorem things_size {C : Str → Prop} {A : Prop} : ∀ (ts : List Thing) (sc : List Str) (n : Nat), TsOk C A sc n ts → ScOk sc → ((thingsL ts).map (fun l => l.length + 2)).sum ≤ 80 * cntB ts
  | [], _, _, _, _ => Nat.le_refl _
  | t :: r, sc, n, h, hs => by
    have h1 := thing_size t sc n h.1 hs
    have h2 := things_size r sc n h.2 hs
    show ((thingL t).length + 2) + ((thingsL r).map (fun l => l.length + 2)).sum ≤ 80 * (cntT t + cntB r)
    omega
end
theorem plan_size {C : Str → Prop} {A : Prop} {ts : List Thing} {sc : List Str} {n : Nat} (h : TsOk C A sc n ts) (hs : ScOk sc) : (planL ts).length ≤ 80 * cntB ts := by
  have j := joinL_len (tl "; ") (thingsL ts)
  have c0 : (tl "; ").length = 2 := by decide +kernel
  rw [c0] at j
  exact Nat.le_trans j (things_size ts sc n h hs)
theorem cnt_pos : ∀ t : Thing, 1 ≤ cntT t
  | .step _ => Nat.le_refl _
  | .loop _ _ _ b => Nat.le_add_right _ _
  | .test _ _ x y => by show 1 ≤ 1 + cntB x + cntB y; omega
  | .twice b => Nat.le_add_right _ _
  | .call _ _ => Nat.le_refl _
  | .again _ _ => Nat.le_refl _
theorem cnt_len : ∀ ts : List Thing, ts.length ≤ cntB ts
  | [] => Nat.le_refl _
  | t :: r => by
    have h1 := cnt_pos t
    have h2 := cnt_len r
    show r.length + 1 ≤ cntT t + cntB r
    omega
theorem cnt_mem {t : Thing} : ∀ {ts : List Thing}, t ∈ ts → cntT t ≤ cntB ts
  | [], h => by cases h
  | u :: r, h => by
    show cntT t ≤ cntT u + cntB r
    rcases List.mem_cons.mp h with rfl | h
    · omega
    · have := cnt_mem h
      omega
/-! ### a comprehension over a tuple, its element a call that leaves all as it was -/
theorem lc_tup_map {K : PySem.W.Frag} {a : Addr} {xs : List V} {g : TG} {te : TE} {vs : List Nat} {σ : L2.St} {H1 : Hp} {D : Addr} {Qd : Hp → Prop} (ys : List V) (i0 : Nat) (hg : g = gName i0) (hw : ∀ v, wipe ((wipe σ vs).set i0 v) vs = wipe σ vs)
    (hlen : ys.length = xs.length) (hz : xs.length < 100000) (hS : H1 a = some (.tup xs)) (hD : H1 D = none)
    (he : ∀ (i : Nat) (x y : V) (H2 : Hp) (Q : VK), xs[i]? = some x → ys[i]? = some y → Same H1 H2 → (∀ H3, Same H2 H3 → Q y H3) → te ((wipe σ vs).set i0 (some x)) H2 Q)
    (hd : ∀ H', Same H1 H' → H' D = some (.lst ys) → Qd H') :
    ∃ W : Nat → Nat → Hp → Prop, (∃ m, W 0 m (upd H1 D (.lst []))) ∧ ∀ i m H, W i m H →
      ((Itt K a).stop i H ∧ Qd H) ∨ ((Itt K a).go i H ∧ ∃ Nx : Hp → Prop, (∀ H', Nx H' → ∃ m', m' < m ∧ W (i + 1) m' H') ∧ ∀ x H', (Itt K a).yld i H x H' → g x (wipe σ vs) H' fun σ2 H2 => wipe σ2 vs = wipe σ vs ∧ tYes σ2 H2 fun b H3 =>
        if b = true then te σ2 H3 fun y H4 => ∃ acc, H4 D = some (.lst acc) ∧ acc.length < sizeLine ∧ Nx (upd H4 D (.lst (acc ++ [y]))) else Nx H3) := by
  subst hg
  refine lc_tup (xs := xs) (fun i H' => Same H1 H' ∧ H' D = some (.lst (ys.take i))) ⟨same_new hD, upd_same⟩ (fun i H' hi hP => SqT.of (hP.1 _ _ hS)) (fun i x H' hx hP => ?_) (fun H' hP => ?_)
  · obtain ⟨sm, hl⟩ := hP
    have hi : i < ys.length := by
      rw [hlen]
      obtain ⟨h, _⟩ := List.getElem?_eq_some_iff.mp hx
      exact h
    refine ⟨hw _, yes_go ?_⟩
    refine he i x ys[i] H' _ hx (List.getElem?_eq_getElem hi) sm fun H3 s3 => ?_
    refine ⟨ys.take i, s3 _ _ hl, ?_, Same.upd_new (sm.trans s3) hD, ?_⟩
    · rw [List.length_take]
      exact szl (by omega)
    · rw [upd_same, List.take_add_one, List.getElem?_eq_getElem hi]
      rfl
  · obtain ⟨sm, hl⟩ := hP
    rw [← hlen, List.take_length] at hl
    exact hd H' sm hl
/-! ### what the writers promise -/
def spEndText : Sp := fun vs H Q _ => ∃ (v : V) (e : Str × Int), vs = [v] ∧ Rp H v (encE e) ∧ e.1.length ≤ 100 ∧ -99 ≤ e.2 ∧ e.2 ≤ 99 ∧ ∀ H', Same H H' → Q (.str (S (endL e))) H'
def spThingText (n : Nat) : Sp := fun vs H Q _ => ∃ (v : V) (t : Thing) (C : Str → Prop) (A : Prop) (sc : List Str), vs = [v] ∧ Rp H v (enc t) ∧ TOk C A sc n t ∧ ScOk sc ∧ cntT t ≤ 1000 ∧ ∀ H', Same H H' → Q (.str (S (thingL t))) H'
def spPlanText (n : Nat) : Sp := fun vs H Q _ => ∃ (v : V) (ts : List Thing) (C : Str → Prop) (A : Prop) (sc : List Str), vs = [v] ∧ Rp H v (.tup (encs ts)) ∧ TsOk C A sc n ts ∧ ScOk sc ∧ cntB ts ≤ 1000 ∧ ∀ H', Same H H' → Q (.str (S (planL ts))) H'
/-- the same for the things of one kind -/
def spOne (kind : Thing → Prop) (n : Nat) : Sp := fun vs H Q _ => ∃ (v : V) (t : Thing) (C : Str → Prop) (A : Prop) (sc : List Str), vs = [v] ∧ kind t ∧ Rp H v (enc t) ∧ TOk C A sc n t ∧ ScOk sc ∧ cntT t ≤ 1000 ∧ ∀ H', Same H H' → Q (.str (S (thingL t))) H'
theorem endL_len {e : Str × Int} (h : e.1.length ≤ 100) (h1 : -99 ≤ e.2) (h2 : e.2 ≤ 99) : (endL e).length ≤ 110 := by
  have n1 := (num_small h1 h2).1
  have n2 := (num_small (i := -e.2) (by omega) (by omega)).1
  have l1 := len_tl e.1
  have p1 : (tl " + ").length = 3 := by decide +kernel
  have p2 : (tl " - ").length = 3 := by decide +kernel
  unfold endL
  split
  · omega
  · split
    · omega
    · split
      · rw [List.length_append, List.length_append]
        omega
      · rw [List.length_append, List.length_append]
        omega
/-! ### how a heap goes on: what M tells may be written, tuples stay -/
structure Go (M : Addr → Prop) (H H' : Hp) : Prop where
  sx : Sx M H H'
  im : Imm H H'
theorem Go.refl (M : Addr → Prop) (H : Hp) : Go M H H := ⟨Sx.refl M H, Imm.refl H⟩
theorem Go.trans {M : Addr → Prop} {H H1 H2 : Hp} (a : Go M H H1) (b : Go M H1 H2) : Go M H H2 := ⟨a.sx.trans b.sx, a.im.trans b.im⟩
theorem Go.same {M : Addr → Prop} {H H' : Hp} (a : Same H H') : Go M H H' := ⟨Sx.of_same a, Imm.same a⟩
theorem Go.new {M : Addr → Prop} {H H' : Hp} {p : Addr} {o : HO} (a : Go M H H') (h : H' p = none) : Go M H (upd H' p o) := a.trans (Go.same (same_new h))
theorem Go.mono {M N : Addr → Prop} {H H' : Hp} (a : Go M H H') (h : ∀ b, M b → N b) : Go N H H' := ⟨a.sx.mono h, a.im⟩
theorem Go.but {M : Addr → Prop} {H H' : Hp} {d L : Addr} (h : Dr H d L) (a : But d H H') (m : M d) : Go M H H' := ⟨Sx.of_but a m, h.imm a⟩
theorem Go.set {M : Addr → Prop} {H H' : Hp} {p : Addr} {o : HO} {l : List V} (a : Go M H H') (m : M p) (h : H' p = some (.lst l)) : Go M H (upd H' p o) :=
  ⟨a.sx.upd_in m, a.im.trans ((Imm.refl H').upd fun xs e => by rw [h] at e; cases e)⟩
theorem Go.own {M : Addr → Prop} {H H' : Hp} {p : Addr} {o : HO} (a : Go M H H') (h : H p = none) : Go M H (upd H' p o) :=
  ⟨a.sx.upd_new h, a.im.upd fun xs e => by rw [h] at e; cases e⟩
theorem Go.at {M : Addr → Prop} {H H' : Hp} {p : Addr} {o : HO} (a : Go M H H') (h : H p = some o) (n : ¬ M p) : H' p = some o := a.sx p o n h
/-- what is not tracked behind was not tracked ahead, where M's own are tracked behind -/
theorem Go.free {M : Addr → Prop} {H H' : Hp} {p : Addr} (a : Go M H H') (h : H' p = none) (n : ¬ M p) : H p = none := by
  cases q : H p with
  | none => rfl
  | some o =>
    rw [a.sx p o n q] at h
    cases h
theorem mem_ints2 {v : V} {a b : Int} (h : v ∈ [V.int a, .int b]) : ∃ m, v = .int m ∧ (m = a ∨ m = b) := by
  rcases List.mem_cons.mp h with rfl | h
  · exact ⟨a, rfl, .inl rfl⟩
  rcases List.mem_cons.mp h with rfl | h
  · exact ⟨b, rfl, .inr rfl⟩
  · cases h
theorem mem_ints3 {v : V} {a b c : Int} (h : v ∈ [V.int a, .int b, .int c]) : ∃ m, v = .int m ∧ (m = a ∨ m = b ∨ m = c) := by
  rcases List.mem_cons.mp h with rfl | h
  · exact ⟨a, rfl, .inl rfl⟩
  obtain ⟨m, e, q⟩ := mem_ints2 h
  exact ⟨m, e, .inr q⟩
theorem mem_ints {v : V} {ns : List Int} (h : v ∈ ns.map V.int) : ∃ m, v = .int m ∧ m ∈ ns := by
  obtain ⟨m, hm, e⟩ := List.mem_map.mp h
  exact ⟨m, e.symm, hm⟩
theorem mem_strs {v : V} {ns : List Str} (h : v ∈ ns.map V.str) : ∃ m, v = .str m ∧ m ∈ ns := by
  obtain ⟨m, hm, e⟩ := List.mem_map.mp h
  exact ⟨m, e.symm, hm⟩
/-! ### what the drawing promises -/
/-- the kit: room, the names that may be called (none), figures, wide -/
def Kt (H : Hp) (k kd : Addr) (r : Int) (fig wide : Bool) : Prop := H k = some (.lst [.int r, .ref kd, .bl fig, .bl wide]) ∧ H kd = some (.dK [])
def M2 (d k : Addr) : Addr → Prop := fun b => b = d ∨ b = k
/-- _law_some_end(draw, scope, wide) -/
def spSomeEnd : Sp := fun vs H Q _ => ∃ (d L sc : Addr) (ns : List Str) (wide : Bool), vs = [.ref d, .ref sc, .bl wide] ∧ Dr H d L ∧ H sc = some (.lst (ns.map V.str)) ∧ sc ≠ d ∧ ns ≠ [] ∧ ns.length < 100 ∧
  ∀ (v : V) (e : Str × Int) (H' : Hp), Rp H' v (encE e) → EndOk ns e → Dr H' d L → Go (· = d) H H' → Q v H'
/-- _law_fresh(draw, taken) -/
def spFresh : Sp := fun vs H Q _ => ∃ (d L sc : Addr) (ns : List Str), vs = [.ref d, .ref sc] ∧ Dr H d L ∧ H sc = some (.lst (ns.map V.str)) ∧ sc ≠ d ∧ ns.length < 26 ∧
  ∀ (x : Str) (H' : Hp), nameB x = true → x ∉ ns → Dr H' d L → Go (· = d) H H' → Q (.str x) H'
/-- no name may be called -/
abbrev C0 : Str → Prop := fun _ => False
/-- _law_leaf(draw, kit, scope, deep) -/
def spLeaf : Sp := fun vs H Q _ => ∃ (d L k kd sc : Addr) (dp r : Int) (fig wide : Bool), vs = [.ref d, .ref k, .ref sc, .int dp] ∧ Dr H d L ∧ Kt H k kd r fig wide ∧ k ≠ d ∧
  ∀ (v : V) (t : Thing) (H' : Hp), Rp H' v (enc t) → (∀ ns n, TOk C0 False ns n t) → cntT t = 1 → Dr H' d L → Go (· = d) H H' → Q v H'
/-- what a drawing of things is handed -/
def spDraw (post : Nat → List Str → V → Hp → Nat → Prop) (n : Nat) : Sp := fun vs H Q _ => ∃ (d L k kd sc : Addr) (r : Nat) (fig wide : Bool) (ns : List Str), vs = [.ref d, .ref k, .ref sc, .int (4 - n)] ∧ Dr H d L ∧ Kt H k kd r fig wide ∧ k ≠ d ∧ k ≠ L ∧ 1 ≤ r ∧ r ≤ 100 ∧
  H sc = some (.lst (ns.map V.str)) ∧ sc ≠ d ∧ sc ≠ k ∧ ScOk ns ∧ ns ≠ [] ∧ ns.length + n ≤ 20 ∧
  ∀ (v : V) (c r' : Nat) (H' : Hp), post n ns v H' c → c + r' = r → Dr H' d L → Kt H' k kd r' fig wide → Go (M2 d k) H H' → Q v H'
def spDrawThing : Nat → Sp := spDraw fun n ns v H' c => ∃ t, Rp H' v (enc t) ∧ TOk C0 False ns n t ∧ cntT t = c
def spDrawBody : Nat → Sp := spDraw fun n ns v H' c => ∃ ts, ts ≠ [] ∧ Rp H' v (.tup (encs ts)) ∧ TsOk C0 False ns n ts ∧ cntB ts = c
/-- _law_drawn(draw, room, figures, wide) -/
def spDrawn : Sp := fun vs H Q _ => ∃ (d L : Addr) (r : Nat) (fig wide : Bool), vs = [.ref d, .int r, .bl fig, .bl wide] ∧ Dr H d L ∧ 1 ≤ r ∧ r ≤ 100 ∧
  ∀ (v : V) (ts : List Thing) (H' : Hp), ts ≠ [] → Rp H' v (.tup (encs ts)) → TsOk C0 False ["n"] 4 ts → cntB ts ≤ r → Dr H' d L → Go (· = d) H H' → Q v H'
/-- of fewer than 26 names one of the doubled letters is none -/
theorem nodup_sub : ∀ {xs ys : List Str}, xs.Nodup → (∀ x ∈ xs, x ∈ ys) → xs.length ≤ ys.length
  | [], _, _, _ => Nat.zero_le _
  | x :: r, ys, h, s => by
    obtain ⟨h1, h2⟩ := List.nodup_cons.mp h
    have hx := s x List.mem_cons_self
    have ih := nodup_sub (xs := r) (ys := ys.erase x) h2 (fun y hy => by
      have hne : y ≠ x := fun e => h1 (e ▸ hy)
      exact (List.mem_erase_of_ne hne).mpr (s y (List.mem_cons_of_mem _ hy)))
    rw [List.length_erase_of_mem hx] at ih
    have : 0 < ys.length := List.length_pos_of_mem hx
    rw [List.length_cons]
    omega
def spare : List Str := abc.map fun c => S [c, c]
theorem spare_nodup : spare.Nodup := by decide +kernel
theorem spare_free {ns : List Str} (h : ns.length < 26) : ∃ x ∈ spare, x ∉ ns := by
  by_cases c : ∃ x ∈ spare, x ∉ ns
  · exact c
  · have : spare.length ≤ ns.length := nodup_sub spare_nodup (fun x hx => by
      by_cases hn : x ∈ ns
      · exact hn
      · exact absurd ⟨x, hx, hn⟩ c)
    have e : spare.length = 26 := by decide +kernel
    omega
theorem spare_name {x : Str} (h : x ∈ spare) : nameB x = true := by
  obtain ⟨c, hc, rfl⟩ := List.mem_map.mp h
  exact name_two c hc
end OG

set_option Elab.async false
set_option linter.all false
set_option maxRecDepth 100000
set_option maxHeartbeats 4000000
namespace OG
open PySem PySem.Spec PyProof.Rows L2
/-! ### two values that stand for one datum -/
def Eq2 (H : Hp) : Nat → V → V → Prop
  | 0, v, w => v = w ∧ flatV v = true
  | n + 1, v, w => (v = w ∧ flatV v = true) ∨
    (∃ (a b : Addr) (vs ws : List V), v = .ref a ∧ w = .ref b ∧ ((H a = some (.tup vs) ∧ H b = some (.tup ws)) ∨ (H a = some (.lst vs) ∧ H b = some (.lst ws))) ∧ vs.length = ws.length ∧ vs.length < 100000 ∧
      ∀ (i : Nat) x y, vs[i]? = some x → ws[i]? = some y → Eq2 H n x y)
theorem Eq2.same {H H' : Hp} (s : Same H H') : ∀ {n : Nat} {v w : V}, Eq2 H n v w → Eq2 H' n v w
  | 0, _, _, h => h
  | n + 1, v, w, h => by
    rcases h with h | ⟨a, b, vs, ws, e1, e2, h, hl, hz, q⟩
    · exact .inl h
    · refine .inr ⟨a, b, vs, ws, e1, e2, ?_, hl, hz, fun i x y hx hy => Eq2.same s (q i x y hx hy)⟩
      rcases h with ⟨h1, h2⟩ | ⟨h1, h2⟩
      · exact .inl ⟨s _ _ h1, s _ _ h2⟩
      · exact .inr ⟨s _ _ h1, s _ _ h2⟩
theorem Eq2.flat {H : Hp} {v : V} (h : flatV v = true) : ∀ n, Eq2 H n v v
  | 0 => ⟨rfl, h⟩
  | n + 1 => .inl ⟨rfl, h⟩
mutual
/-- how deep tuples stand in one another -/
def depD : D → Nat
  | .tup xs => 1 + depL xs
  | _ => 0
def depL : List D → Nat
  | [] => 0
  | x :: xs => max (depD x) (depL xs)
end
mutual
/-- no tuple is too long -/
def fitD : D → Prop
  | .tup xs => xs.length < 100000 ∧ fitL xs
  | _ => True
def fitL : List D → Prop
  | [] => True
  | x :: xs => fitD x ∧ fitL xs
end
theorem fit_get : ∀ {xs : List D} {i : Nat} {x : D}, fitL xs → xs[i]? = some x → fitD x
  | [], _, _, _, h => by simp at h
  | y :: ys, 0, x, f, h => by
    have : y = x := Option.some.inj h
    exact this ▸ f.1
  | y :: ys, i + 1, x, f, h => fit_get (xs := ys) (i := i) f.2 h
theorem dep_get : ∀ {xs : List D} {i : Nat} {x : D}, xs[i]? = some x → depD x ≤ depL xs
  | [], _, _, h => by simp at h
  | y :: ys, 0, x, h => by
    have : y = x := Option.some.inj h
    rw [← this]
    exact Nat.le_max_left _ _
  | y :: ys, i + 1, x, h => Nat.le_trans (dep_get (xs := ys) (i := i) h) (Nat.le_max_right _ _)
theorem eq2_of {H : Hp} : ∀ (n : Nat) (x : D) (v w : V), Rp H v x → Rp H w x → depD x ≤ n → fitD x → Eq2 H n v w
  | n, .non, _, _, h, k, _, _ => by rw [show _ = V.non from h, show _ = V.non from k]; exact Eq2.flat rfl n
  | n, .bl b, _, _, h, k, _, _ => by rw [show _ = V.bl b from h, show _ = V.bl b from k]; exact Eq2.flat rfl n
  | n, .int i, _, _, h, k, _, _ => by rw [show _ = V.int i from h, show _ = V.int i from k]; exact Eq2.flat rfl n
  | n, .str z, _, _, h, k, _, _ => by rw [show _ = V.str z from h, show _ = V.str z from k]; exact Eq2.flat rfl n
  | 0, .tup xs, _, _, _, _, hd, _ => by
    have : 1 + depL xs ≤ 0 := hd
    omega
  | n + 1, .tup xs, v, w, h, k, hd, hf => by
    obtain ⟨a, vs, e1, h1, r1⟩ := h
    obtain ⟨b, ws, e2, h2, r2⟩ := k
    have l1 := r1.length
    have l2 := r2.length
    have hd2 : depL xs ≤ n := by
      have : 1 + depL xs ≤ n + 1 := hd
      omega
    refine .inr ⟨a, b, vs, ws, e1, e2, .inl ⟨h1, h2⟩, l1.trans l2.symm, by rw [l1]; exact hf.1, fun i x y hx hy => ?_⟩
    obtain ⟨d1, g1, p1⟩ := r1.get hx
    obtain ⟨d2, g2, p2⟩ := r2.get hy
    have e : d1 = d2 := Option.some.inj (g1.symm.trans g2)
    subst e
    exact eq2_of n d1 x y p1 p2 (Nat.le_trans (dep_get g1) hd2) (fit_get hf.2 g1)
def spSame (n : Nat) : Sp := fun vs H Q _ => ∃ v w : V, vs = [v, w] ∧ Eq2 H n v w ∧ ∀ H', Same H H' → Q (.bl true) H'
def prevS : Nat → Sp
  | 0 => fun _ _ _ _ => False
  | n + 1 => spSame n
/-- zip of two tuples -/
theorem walk_zipT {K : PySem.W.Frag} {a b : Addr} {xs ys : List V} {n : Nat} (hn : n = min xs.length ys.length) : Walk (RZ.ItzT K a b) n (fun H => SqT K H a xs ∧ SqT K H b ys) (YPair (fun i => xs[i]?) (fun i => ys[i]?)) := by
  subst hn
  refine ⟨fun i _ hi q => ?_, fun _ q => ⟨xs, ys, q.1, q.2, by omega⟩, fun i H v H' _ q y => ?_⟩
  · have h1 : i < xs.length := by omega
    have h2 : i < ys.length := by omega
    exact ⟨xs, ys, xs[i], ys[i], q.1, q.2, by simp [h1], by simp [h2]⟩
  · obtain ⟨T, x, z, h1, h2, h3, h4, h5⟩ := y
    exact ⟨T, x, z, h1, h2, h3, h4 xs q.1, h5 ys q.2⟩
theorem fn_none {P : Program} {w : World} {K : PySem.W.Frag} {mg : Str → Option Value} {base : Heap} {f : Addr} {fd : FuncData} {k : Nat} {ps : List Str} : FnOk P w K mg base CX0 k f fd ps (fun _ _ _ _ => False) :=
  ⟨fun _ _ _ _ h => h.elim, fun _ _ _ _ _ _ _ _ _ _ _ _ _ h => h.elim⟩
theorem all_trues : ∀ n : Nat, (List.replicate n true).all id = true
  | 0 => rfl
  | n + 1 => by rw [List.replicate_succ, List.all_cons, all_trues n]; rfl
theorem pg_tupK {X : Cx} {K : PySem.W.Frag} {es : List Expr} {k : Nat} {t : TGs} {n : Nat} {pos : Pos} (hK : X.K = K) (hc : X.calm = true) (h : PGs X es t) (hn : (assignEach es X.env).length = n := by rfl) (hst : (assignEach es X.env).findIdx? (·.1) = none := by rfl) : PG X (.Tuple es k pos) (gTup K n t) := by
  subst hK
  exact pg_tup hc h hn hst
end OG

set_option Elab.async false
set_option linter.all false
set_option maxRecDepth 100000
set_option maxHeartbeats 4000000
namespace OG
open PySem PySem.Spec PyProof.Rows L2
theorem str_to {Q : VK} {a b : Str} {H : Hp} (h : Q (.str b) H) (e : tl a = tl b) : Q (.str a) H := by rw [str_ext e]; exact h
theorem szs {a b : Str} (h : a.length + b.length ≤ 100000) : (a ++ b).length ≤ sizeLine := by rw [len_app]; exact sz h
theorem szc {a b : Str} (h : a.length + b.length ≤ 100000) : a.length + b.length ≤ sizeLine := sz h
theorem l_emp : Str.empty.length = 0 := rfl
theorem l_0 : ("" : Str).length = 0 := by decide +kernel
theorem l_plus : (" + " : Str).length = 3 := by decide +kernel
theorem l_minus : (" - " : Str).length = 3 := by decide +kernel
theorem l_step : ("step " : Str).length = 5 := by decide +kernel
theorem l_for : ("for " : Str).length = 4 := by decide +kernel
theorem l_from : (" from " : Str).length = 6 := by decide +kernel
theorem l_to : (" to " : Str).length = 4 := by decide +kernel
theorem l_open : (" (" : Str).length = 2 := by decide +kernel
theorem l_shut : (")" : Str).length = 1 := by decide +kernel
theorem l_if : ("if " : Str).length = 3 := by decide +kernel
theorem l_le : (" <= " : Str).length = 4 := by decide +kernel
theorem l_else : (" else (" : Str).length = 7 := by decide +kernel
theorem l_double : ("double (" : Str).length = 8 := by decide +kernel
theorem l_call : ("call " : Str).length = 5 := by decide +kernel
theorem l_with : (" with " : Str).length = 6 := by decide +kernel
theorem l_again : ("again " : Str).length = 6 := by decide +kernel
theorem l_on : (" on " : Str).length = 4 := by decide +kernel
theorem numL_len {i : Int} (h0 : -99 ≤ i) (h1 : i ≤ 99) : ((toString i : Str)).length ≤ 3 := by
  have := (num_small h0 h1).1
  unfold numL at this
  rw [← len_tl] at this
  exact this
theorem int_log {i : Int} (h0 : -99 ≤ i) (h1 : i ≤ 99) : i.natAbs.log2 < 1920 := (num_small h0 h1).2
theorem strs_len (ls : List (List Nat)) : ((ls.map S).map (·.length)).sum = (ls.map (·.length)).sum := by
  rw [List.map_map]
  congr 1
theorem sum_le_two : ∀ ls : List (List Nat), (ls.map (·.length)).sum + ls.length * 2 = (ls.map (fun l => l.length + 2)).sum
  | [] => rfl
  | l :: r => by
    have ih := sum_le_two r
    rw [List.map_cons, List.map_cons, List.sum_cons, List.sum_cons, List.length_cons]
    omega
/-- '; '.join of the things' texts -/
theorem join_things (ts : List Thing) : Txt.join "; " (ts.map fun t => S (thingL t)) = S (planL ts) := by
  have e := SX.join_S (tl "; ") (thingsL ts)
  have e1 : SX.S (tl "; ") = ("; " : Str) := S_tl _
  rw [e1] at e
  have e2 : (thingsL ts).map SX.S = ts.map fun t => S (thingL t) := by
    rw [thingsL_map, List.map_map]
    rfl
  rw [e2] at e
  exact e
theorem things_sum {C : Str → Prop} {A : Prop} {ts : List Thing} {sc : List Str} {n : Nat} (h : TsOk C A sc n ts) (hs : ScOk sc) (hc : cntB ts ≤ 1000) :
    (((ts.map fun t => S (thingL t))).map (·.length)).sum + (ts.map fun t => S (thingL t)).length * ("; " : Str).length ≤ 16777216 := by
  have c0 : ("; " : Str).length = 2 := by decide +kernel
  have e : (ts.map fun t => S (thingL t)) = (thingsL ts).map S := by
    rw [thingsL_map, List.map_map]
    rfl
  rw [e, strs_len, c0, List.length_map, sum_le_two]
  have := things_size ts sc n h hs
  omega
theorem body_len {C : Str → Prop} {A : Prop} {ts : List Thing} {sc : List Str} {n : Nat} (h : TsOk C A sc n ts) (hs : ScOk sc) (hc : cntB ts ≤ 1000) : (planL ts).length ≤ 80000 := by
  have := plan_size h hs
  omega
theorem rpl_things {H : Hp} {vs : List V} {ts : List Thing} (h : RpL H vs (encs ts)) {i : Nat} {x : V} (hx : vs[i]? = some x) : ∃ t, ts[i]? = some t ∧ Rp H x (enc t) := by
  obtain ⟨d, hd, hr⟩ := h.get hx
  rw [encs_map, List.getElem?_map] at hd
  cases ht : ts[i]? with
  | none => rw [ht] at hd; cases hd
  | some t =>
    rw [ht] at hd
    have : enc t = d := Option.some.inj hd
    exact ⟨t, rfl, this ▸ hr⟩
end OG

set_option Elab.async false
set_option linter.all false
set_option maxRecDepth 100000
set_option maxHeartbeats 4000000
namespace OG
open PySem PySem.Spec PyProof.Rows L2
mutual
def toPy : D → PyData
  | .non => .none
  | .bl b => .bool b
  | .int n => .int n
  | .str z => .str z
  | .tup xs => .tuple (toPys xs)
def toPys : List D → List PyData
  | [] => []
  | x :: xs => toPy x :: toPys xs
end
mutual
theorem rp_dp {K : PySem.W.Frag} {H : Hp} : ∀ (x : D) (v : V), Rp H v x → Dp K H v (toPy x)
  | .non, _, h => by rw [show _ = V.non from h]; exact .non
  | .bl b, _, h => by rw [show _ = V.bl b from h]; exact .bl b
  | .int n, _, h => by rw [show _ = V.int n from h]; exact .int n
  | .str z, _, h => by rw [show _ = V.str z from h]; exact .str z
  | .tup xs, _, h => by
    obtain ⟨a, vs, e, q, r⟩ := h
    rw [e]
    exact .tup (SqT.of q) (rp_dps xs vs r)
theorem rp_dps {K : PySem.W.Frag} {H : Hp} : ∀ (xs : List D) (vs : List V), RpL H vs xs → DpAll K H vs (toPys xs)
  | [], _, h => by rw [show _ = [] from h]; exact .nil
  | x :: xs, _, h => by
    obtain ⟨v, r, e, q, t⟩ := h
    rw [e]
    exact .cons (rp_dp x v q) (rp_dps xs r t)
end
theorem abc_range : ∀ c ∈ abc, 97 ≤ c ∧ c ≤ 122 := by
  have h : abc.all (fun c => decide (97 ≤ c) && decide (c ≤ 122)) = true := by decide +kernel
  intro c hc
  have := List.all_eq_true.mp h c hc
  simpa only [Bool.and_eq_true, decide_eq_true_eq] using this
theorem name_strOk {z : Str} (h : nameB z = true) : PyData.strOk z = true := by
  have ha := name_abc h
  unfold PyData.strOk
  rw [Array.all_eq_true']
  intro c hc
  have := abc_range c (ha c (by simpa [tl] using hc))
  simp
  omega
theorem end_py {sc : List Str} {e : Str × Int} (hs : ScOk sc) (h : EndOk sc e) : (toPy (encE e)).canLay0 = true ∧ (toPy (encE e)).depth = 1 := by
  have h1 : PyData.strOk e.1 = true := by
    rcases h with ⟨h1, _⟩ | ⟨h1, _⟩
    · rw [h1]
      decide +kernel
    · rcases hs _ h1 with h2 | h2
      · rw [h2]
        decide +kernel
      · exact name_strOk h2
  refine ⟨?_, rfl⟩
  show (PyData.strOk e.1 && (true && true)) = true
  rw [h1]
  rfl
mutual
theorem thing_py {C : Str → Prop} {A : Prop} : ∀ (t : Thing) (sc : List Str) (n : Nat), TOk C A sc n t → ScOk sc → (toPy (enc t)).canLay0 = true ∧ (toPy (enc t)).depth ≤ 2 * n + 2
  | .step k, sc, n, h, hs => ⟨by show (PyData.strOk "step" && (true && true)) = true; decide +kernel, by show 1 ≤ 2 * n + 2; omega⟩
  | .loop x a b body, sc, n, h, hs => by
    obtain ⟨h1, h2, h3, h4, h5, m, rfl, h6⟩ := h
    obtain ⟨a1, a2⟩ := end_py hs h3
    obtain ⟨b1, b2⟩ := end_py hs h4
    obtain ⟨c1, c2⟩ := things_py body _ _ h6 (scOk_snoc hs h1)
    have f1 : PyData.strOk "for" = true := by decide +kernel
    constructor
    · show (PyData.strOk "for" && (PyData.strOk x && ((toPy (encE a)).canLay0 && ((toPy (encE b)).canLay0 && (PyData.canLayAll0 (toPys (encs body)) && true))))) = true
      rw [f1, name_strOk h1, a1, b1, c1]
      rfl
    · show max 0 (max 0 (max (toPy (encE a)).depth (max (toPy (encE b)).depth (max (PyData.depthAll (toPys (encs body)) + 1) 0)))) + 1 ≤ 2 * (m + 1) + 2
      rw [a2, b2]
      omega
  | .test a b x y, sc, n, h, hs => by
    obtain ⟨h3, h4, h5, m, rfl, h6, h7⟩ := h
    obtain ⟨a1, a2⟩ := end_py hs h3
    obtain ⟨b1, b2⟩ := end_py hs h4
    obtain ⟨c1, c2⟩ := things_py x _ _ h6 hs
    obtain ⟨d1, d2⟩ := things_py y _ _ h7 hs
    have f1 : PyData.strOk "if" = true := by decide +kernel
    constructor
    · show (PyData.strOk "if" && ((toPy (encE a)).canLay0 && ((toPy (encE b)).canLay0 && (PyData.canLayAll0 (toPys (encs x)) && (PyData.canLayAll0 (toPys (encs y)) && true))))) = true
      rw [f1, a1, b1, c1, d1]
      rfl
    · show max 0 (max (toPy (encE a)).depth (max (toPy (encE b)).depth (max (PyData.depthAll (toPys (encs x)) + 1) (max (PyData.depthAll (toPys (encs y)) + 1) 0)))) + 1 ≤ 2 * (m + 1) + 2
      rw [a2, b2]
      omega
  | .twice b, sc, n, h, hs => by
    obtain ⟨h5, m, rfl, h6⟩ := h
    obtain ⟨c1, c2⟩ := things_py b _ _ h6 hs
    have f1 : PyData.strOk "double" = true := by decide +kernel
    constructor
    · show (PyData.strOk "double" && (PyData.canLayAll0 (toPys (encs b)) && true)) = true
      rw [f1, c1]
      rfl
    · show max 0 (max (PyData.depthAll (toPys (encs b)) + 1) 0) + 1 ≤ 2 * (m + 1) + 2
      omega
  | .call x e, sc, n, h, hs => by
    obtain ⟨a1, a2⟩ := end_py hs h.2.2
    have f1 : PyData.strOk "call" = true := by decide +kernel
    constructor
    · show (PyData.strOk "call" && (PyData.strOk x && ((toPy (encE e)).canLay0 && true))) = true
      rw [f1, name_strOk h.1, a1]
      rfl
    · show max 0 (max 0 (max (toPy (encE e)).depth 0)) + 1 ≤ 2 * n + 2
      rw [a2]
      omega
  | .again k w, sc, n, h, hs => by
    obtain ⟨_, _, _, h3⟩ := h
    have f1 : PyData.strOk "again" = true := by decide +kernel
    have f2 : PyData.strOk w = true := by
      rcases h3 with rfl | rfl | rfl
      · decide +kernel
      · decide +kernel
      · decide +kernel
    constructor
    · show (PyData.strOk "again" && (true && (PyData.strOk w && true))) = true
      rw [f1, f2]
      rfl
    · show 1 ≤ 2 * n + 2
      omega
theorem things_py {C : Str → Prop} {A : Prop} : ∀ (ts : List Thing) (sc : List Str) (n : Nat), TsOk C A sc n ts → ScOk sc → PyData.canLayAll0 (toPys (encs ts)) = true ∧ PyData.depthAll (toPys (encs ts)) ≤ 2 * n + 2
  | [], _, _, _, _ => ⟨rfl, Nat.zero_le _⟩
  | t :: r, sc, n, h, hs => by
    obtain ⟨a1, a2⟩ := thing_py t sc n h.1 hs
    obtain ⟨b1, b2⟩ := things_py r sc n h.2 hs
    constructor
    · show ((toPy (enc t)).canLay0 && PyData.canLayAll0 (toPys (encs r))) = true
      rw [a1, b1]
      rfl
    · show max (toPy (enc t)).depth (PyData.depthAll (toPys (encs r))) ≤ 2 * n + 2
      omega
end
/-- a body against the empty tuple -/
theorem body_eqv {C : Str → Prop} {A : Prop} {ts : List Thing} {sc : List Str} {n : Nat} (h : TsOk C A sc n ts) (hs : ScOk sc) (hn : n ≤ 20) :
    SeqAt.shaped (toPy (.tup (encs ts))) = true ∧ PyData.eqv (toPy (.tup (encs ts))) (.tuple []) = ts.isEmpty := by
  obtain ⟨a1, a2⟩ := things_py ts sc n h hs
  constructor
  · unfold SeqAt.shaped
    rw [show (toPy (.tup (encs ts))).canLay0 = true from a1]
    have : (toPy (.tup (encs ts))).depth ≤ 64 := by
      show PyData.depthAll (toPys (encs ts)) + 1 ≤ 64
      omega
    rw [decide_eq_true this]
    rfl
  · cases ts with
    | nil => rfl
    | cons t r => rfl
end OG

set_option Elab.async false
set_option linter.all false
set_option maxRecDepth 100000
set_option maxHeartbeats 4000000
namespace OG
open PySem PySem.Spec PyProof.Rows L2
def cutD (xs : List D) (lo hi : Option Int) : List D := (xs.drop (HT.sIx xs.length 0 lo)).take (HT.sIx xs.length xs.length hi - HT.sIx xs.length 0 lo)
theorem sl_rp {K : PySem.W.Frag} {H : Hp} {v : V} {xs : List D} {lo hi : Option Int} {Q : VK} (h : Rp H v (.tup xs)) (q : ∀ v' H', Same H H' → Rp H' v' (.tup (cutD xs lo hi)) → Q v' H') : rSlA K v lo hi H Q := by
  obtain ⟨a, vs, rfl, ha, r⟩ := id h
  have l := r.length
  refine ⟨a, vs, rfl, SqT.of ha, fun hw => ?_, fun hw p np => ?_⟩
  · have e : cutD xs lo hi = xs := by
      unfold cutD
      rw [← l, hw.1, hw.2, List.drop_zero, Nat.sub_zero, l, List.take_length]
    have := q (.ref a) H (Same.refl H)
    rw [e] at this
    exact this h
  · have s : Same H (upd H p (.tup (cutV vs lo hi))) := same_new np
    refine q (.ref p) _ s (rp_tup upd_same ?_)
    unfold cutV cutD
    rw [← l]
    exact ((r.drop _).take _).to (Imm.same s)
theorem cat_rp {K : PySem.W.Frag} {H : Hp} {x y : V} {xs ys : List D} {Q : VK} (hx : Rp H x (.tup xs)) (hy : Rp H y (.tup ys)) (hz : xs.length + ys.length ≤ 100000) (q : ∀ v' H', Same H H' → Rp H' v' (.tup (xs ++ ys)) → Q v' H') : rCatA K x y H Q := by
  obtain ⟨a, vs, rfl, ha, r⟩ := id hx
  obtain ⟨b, ws, rfl, hb, t⟩ := id hy
  have l := r.length
  have m := t.length
  refine ⟨a, b, vs, ws, rfl, rfl, SqT.of ha, SqT.of hb, sz (by omega), fun e => ?_, fun _ e => ?_, fun _ _ p np => ?_⟩
  · have : xs = [] := List.eq_nil_of_length_eq_zero (by rw [← l, e]; rfl)
    subst this
    exact q (.ref b) H (Same.refl H) hy
  · have : ys = [] := List.eq_nil_of_length_eq_zero (by rw [← m, e]; rfl)
    subst this
    have := q (.ref a) H (Same.refl H)
    rw [List.append_nil] at this
    exact this hx
  · have s : Same H (upd H p (.tup (vs ++ ws))) := same_new np
    exact q (.ref p) _ s (rp_tup upd_same ((r.append t).to (Imm.same s)))
theorem cutD_to (xs : List D) (k : Nat) : cutD xs none (some (k : Int)) = xs.take k := by
  unfold cutD
  rw [HT.sIx_none, HT.sIx_nat, List.drop_zero, Nat.sub_zero]
  by_cases h : k ≤ xs.length
  · rw [Nat.min_eq_left h]
  · rw [Nat.min_eq_right (by omega), List.take_length, List.take_of_length_le (by omega)]
theorem cutD_from (xs : List D) (k : Nat) : cutD xs (some (k : Int)) none = xs.drop k := by
  unfold cutD
  rw [HT.sIx_none, HT.sIx_nat]
  by_cases h : k ≤ xs.length
  · rw [Nat.min_eq_left h, List.take_of_length_le (by rw [List.length_drop]; omega)]
  · rw [Nat.min_eq_right (by omega), List.drop_length, Nat.sub_self, List.drop_eq_nil_of_le (by omega)]
    rfl
theorem encs_take (ts : List Thing) (k : Nat) : (encs ts).take k = encs (ts.take k) := by rw [encs_map, encs_map, List.map_take]
theorem encs_drop (ts : List Thing) (k : Nat) : (encs ts).drop k = encs (ts.drop k) := by rw [encs_map, encs_map, List.map_drop]
theorem cnt_take : ∀ (ts : List Thing) (k : Nat), cntB (ts.take k) ≤ cntB ts
  | _, 0 => Nat.zero_le _
  | [], k + 1 => Nat.le_refl _
  | t :: r, k + 1 => by
    have := cnt_take r k
    show cntT t + cntB (r.take k) ≤ cntT t + cntB r
    omega
theorem cnt_drop : ∀ (ts : List Thing) (k : Nat), cntB (ts.drop k) ≤ cntB ts
  | _, 0 => Nat.le_refl _
  | [], k + 1 => Nat.le_refl _
  | t :: r, k + 1 => by
    have := cnt_drop r k
    show cntB (r.drop k) ≤ cntT t + cntB r
    omega
mutual
theorem tok_mono {C C' : Str → Prop} {A A' : Prop} (hC : ∀ x, C x → C' x) (hA : A → A') : ∀ (t : Thing) (sc : List Str) (n : Nat), TOk C A sc n t → TOk C' A' sc n t
  | .step _, _, _, h => h
  | .loop x a b body, sc, n, h => by
    obtain ⟨h1, h2, h3, h4, h5, m, e, h6⟩ := h
    exact ⟨h1, h2, h3, h4, h5, m, e, tsok_mono hC hA body _ _ h6⟩
  | .test a b x y, sc, n, h => by
    obtain ⟨h3, h4, h5, m, e, h6, h7⟩ := h
    exact ⟨h3, h4, h5, m, e, tsok_mono hC hA x _ _ h6, tsok_mono hC hA y _ _ h7⟩
  | .twice b, sc, n, h => by
    obtain ⟨h5, m, e, h6⟩ := h
    exact ⟨h5, m, e, tsok_mono hC hA b _ _ h6⟩
  | .call x e, sc, n, h => ⟨h.1, hC _ h.2.1, h.2.2⟩
  | .again k w, sc, n, h => ⟨hA h.1, h.2⟩
theorem tsok_mono {C C' : Str → Prop} {A A' : Prop} (hC : ∀ x, C x → C' x) (hA : A → A') : ∀ (ts : List Thing) (sc : List Str) (n : Nat), TsOk C A sc n ts → TsOk C' A' sc n ts
  | [], _, _, _ => trivial
  | t :: r, sc, n, h => ⟨tok_mono hC hA t sc n h.1, tsok_mono hC hA r sc n h.2⟩
end
theorem tsok_append {C : Str → Prop} {A : Prop} {sc : List Str} {n : Nat} {a b : List Thing} (h : TsOk C A sc n a) (k : TsOk C A sc n b) : TsOk C A sc n (a ++ b) := by
  rw [tsok_iff] at h k ⊢
  intro t ht
  rcases List.mem_append.mp ht with h1 | h1
  · exact h t h1
  · exact k t h1
theorem tsok_take {C : Str → Prop} {A : Prop} {sc : List Str} {n : Nat} {a : List Thing} (h : TsOk C A sc n a) (k : Nat) : TsOk C A sc n (a.take k) := by
  rw [tsok_iff] at h ⊢
  exact fun t ht => h t (List.mem_of_mem_take ht)
theorem tsok_drop {C : Str → Prop} {A : Prop} {sc : List Str} {n : Nat} {a : List Thing} (h : TsOk C A sc n a) (k : Nat) : TsOk C A sc n (a.drop k) := by
  rw [tsok_iff] at h ⊢
  exact fun t ht => h t (List.mem_of_mem_drop ht)
theorem scOk_n : ScOk ["n"] := fun x hx => .inl (List.mem_singleton.mp hx)
abbrev CT : Str → Prop := fun _ => True
def spLaw (K : PySem.W.Frag) : Sp := fun vs H Q _ => ∃ (a : Addr) (ns : List Int), vs = [.ref a] ∧ SqL K H a (ns.map V.int) ∧ ns.length ≤ 63 ∧ ∀ H', Q (.bl true) H'
/-! depth and fit of a plan's datum -/
theorem depD_end (e : Str × Int) : depD (encE e) = 1 := rfl
mutual
theorem thing_dep {C : Str → Prop} {A : Prop} : ∀ (t : Thing) (sc : List Str) (n : Nat), TOk C A sc n t → depD (enc t) ≤ 2 * n + 2
  | .step k, _, n, _ => by show 1 ≤ 2 * n + 2; omega
  | .loop x a b body, sc, n, h => by
    obtain ⟨_, _, _, _, _, m, rfl, h6⟩ := h
    have := things_dep body _ _ h6
    show 1 + max 0 (max 0 (max 1 (max 1 (max (1 + depL (encs body)) 0)))) ≤ 2 * (m + 1) + 2
    omega
  | .test a b x y, sc, n, h => by
    obtain ⟨_, _, _, m, rfl, h6, h7⟩ := h
    have h8 := things_dep x _ _ h6
    have h9 := things_dep y _ _ h7
    show 1 + max 0 (max 1 (max 1 (max (1 + depL (encs x)) (max (1 + depL (encs y)) 0)))) ≤ 2 * (m + 1) + 2
    omega
  | .twice b, sc, n, h => by
    obtain ⟨_, m, rfl, h6⟩ := h
    have := things_dep b _ _ h6
    show 1 + max 0 (max (1 + depL (encs b)) 0) ≤ 2 * (m + 1) + 2
    omega
  | .call x e, _, n, _ => by show 1 + max 0 (max 0 (max 1 0)) ≤ 2 * n + 2; omega
  | .again k w, _, n, _ => by show 1 ≤ 2 * n + 2; omega
theorem things_dep {C : Str → Prop} {A : Prop} : ∀ (ts : List Thing) (sc : List Str) (n : Nat), TsOk C A sc n ts → depL (encs ts) ≤ 2 * n + 2
  | [], _, _, _ => Nat.zero_le _
  | t :: r, sc, n, h => by
    have h1 := thing_dep t sc n h.1
    have h2 := things_dep r sc n h.2
    show max (depD (enc t)) (depL (encs r)) ≤ 2 * n + 2
    omega
end
theorem plan_dep {C : Str → Prop} {A : Prop} {ts : List Thing} {sc : List Str} {n k : Nat} (h : TsOk C A sc n ts) (hk : 2 * n + 3 ≤ k) : depD (.tup (encs ts)) ≤ k := by
  have := things_dep ts sc n h
  show 1 + depL (encs ts) ≤ k
  omega
mutual
theorem thing_fit : ∀ (t : Thing), cntT t ≤ 1000 → fitD (enc t)
  | .step k, _ => ⟨by show 2 < 100000; decide, trivial, trivial, trivial⟩
  | .loop x a b body, h => by
    have h2 : 1 + cntB body ≤ 1000 := h
    have hl := cnt_len body
    exact ⟨by show 5 < 100000; decide, trivial, trivial, ⟨by show 2 < 100000; decide, trivial, trivial, trivial⟩, ⟨by show 2 < 100000; decide, trivial, trivial, trivial⟩, ⟨by rw [encs_length]; omega, things_fit body (by omega)⟩, trivial⟩
  | .test a b x y, h => by
    have h2 : 1 + cntB x + cntB y ≤ 1000 := h
    have hx := cnt_len x
    have hy := cnt_len y
    exact ⟨by show 5 < 100000; decide, trivial, ⟨by show 2 < 100000; decide, trivial, trivial, trivial⟩, ⟨by show 2 < 100000; decide, trivial, trivial, trivial⟩, ⟨by rw [encs_length]; omega, things_fit x (by omega)⟩, ⟨by rw [encs_length]; omega, things_fit y (by omega)⟩, trivial⟩
  | .twice b, h => by
    have h2 : 1 + cntB b ≤ 1000 := h
    have hl := cnt_len b
    exact ⟨by show 2 < 100000; decide, trivial, ⟨by rw [encs_length]; omega, things_fit b (by omega)⟩, trivial⟩
  | .call x e, _ => ⟨by show 3 < 100000; decide, trivial, trivial, ⟨by show 2 < 100000; decide, trivial, trivial, trivial⟩, trivial⟩
  | .again k w, _ => ⟨by show 3 < 100000; decide, trivial, trivial, trivial, trivial⟩
theorem things_fit : ∀ (ts : List Thing), cntB ts ≤ 1000 → fitL (encs ts)
  | [], _ => trivial
  | t :: r, h => by
    have h2 : cntT t + cntB r ≤ 1000 := h
    exact ⟨thing_fit t (by omega), things_fit r (by omega)⟩
end
theorem plan_fit {C : Str → Prop} {A : Prop} {ts : List Thing} {sc : List Str} {n : Nat} (_ : TsOk C A sc n ts) (h : cntB ts ≤ 1000) : fitD (.tup (encs ts)) := by
  have hl := cnt_len ts
  exact ⟨by rw [encs_length]; omega, things_fit ts h⟩
end OG

set_option Elab.async false
set_option linter.all false
set_option maxRecDepth 100000
set_option maxHeartbeats 4000000
namespace OG
open PySem PySem.Spec PyProof.Rows L2
/-! ### x *= y, x //= y -/
def ipC (c : Int → Int → Prop) (f : Int → Int → Int) : TIp := fun x y H Q => ∃ i j, x = .int i ∧ y = .int j ∧ c i j ∧ Q (.int (f i j)) H
theorem ip_mul {X : Cx} : PIp X .Mult (ipC CMul fun i j => i * j) := by
  intro pins s σ H x y v u Q I r1 r2 h
  obtain ⟨i, j, e1, e2, hc, q⟩ := h
  subst e1; subst e2
  obtain ⟨t, rfl⟩ := r1
  obtain ⟨t', rfl⟩ := r2
  exact imul_int ⟨.int _, H, I.tok _, ⟨_, rfl⟩, q⟩ hc.ok
theorem ip_fdiv {X : Cx} : PIp X .FloorDiv (ipC CDiv fun i j => i / j) := by
  intro pins s σ H x y v u Q I r1 r2 h
  obtain ⟨i, j, e1, e2, hc, q⟩ := h
  subst e1; subst e2
  obtain ⟨t, rfl⟩ := r1
  obtain ⟨t', rfl⟩ := r2
  have h1 : (0 : Int) < j := hc.1
  have h2 : j < 1073741824 := hc.2
  refine ifloordiv_int (by omega) ?_ (.inl (PyProof.noPylong_small (by omega)))
  rw [Int.fdiv_eq_ediv_of_nonneg i (by omega)]
  exact ⟨.int _, H, I.tok _, ⟨_, rfl⟩, q⟩
/-! ### signs -/
def sgn (n : Int) : Int := if n = 0 then 0 else if 0 < n then 1 else -1
theorem sgn_pos {n : Int} (h : 0 < n) : sgn n = 1 := by unfold sgn; rw [if_neg (by omega), if_pos h]
theorem sgn_neg {n : Int} (h : n < 0) : sgn n = -1 := by unfold sgn; rw [if_neg (by omega), if_neg (by omega)]
theorem sgn_zero : sgn 0 = 0 := rfl
theorem sgn_cases (n : Int) : (n < 0 ∧ sgn n = -1) ∨ (n = 0 ∧ sgn n = 0) ∨ (0 < n ∧ sgn n = 1) := by
  rcases Int.lt_trichotomy n 0 with h | h | h
  · exact .inl ⟨h, sgn_neg h⟩
  · subst h; exact .inr (.inl ⟨rfl, rfl⟩)
  · exact .inr (.inr ⟨h, sgn_pos h⟩)
/-! ### logarithms, rounded down -/
def flogF : Nat → Nat → Nat → Nat
  | 0, _, _ => 0
  | f + 1, b, N => if b ≤ N then flogF f b (N / b) + 1 else 0
def flog (b N : Nat) : Nat := flogF 700 b N
theorem flogF_spec : ∀ (f b N : Nat), 2 ≤ b → 1 ≤ N → N < 2 ^ f → b ^ flogF f b N ≤ N ∧ N < b ^ (flogF f b N + 1)
  | 0, b, N, hb, h1, h2 => by
    have : N < 1 := h2
    omega
  | f + 1, b, N, hb, h1, h2 => by
    unfold flogF
    by_cases h : b ≤ N
    · rw [if_pos h]
      have hd1 : 1 ≤ N / b := Nat.div_pos h (by omega)
      have hd2 : N / b < 2 ^ f := by
        refine Nat.div_lt_of_lt_mul ?_
        have e : 2 ^ (f + 1) = 2 * 2 ^ f := by rw [Nat.pow_succ, Nat.mul_comm]
        have := Nat.mul_le_mul_right (2 ^ f) hb
        omega
      obtain ⟨i1, i2⟩ := flogF_spec f b (N / b) hb hd1 hd2
      constructor
      · rw [Nat.pow_succ]
        exact (Nat.le_div_iff_mul_le (by omega)).mp i1
      · rw [Nat.pow_succ]
        exact (Nat.div_lt_iff_lt_mul (by omega)).mp i2
    · rw [if_neg h]
      constructor
      · exact h1
      · show N < b ^ 1
        rw [Nat.pow_one]
        omega
theorem log_uniq {b N i j : Nat} (hb : 2 ≤ b) (h1 : b ^ i ≤ N) (h2 : N < b ^ (i + 1)) (h3 : b ^ j ≤ N) (h4 : N < b ^ (j + 1)) : i = j := by
  have a1 : b ^ i < b ^ (j + 1) := Nat.lt_of_le_of_lt h1 h4
  have a2 : b ^ j < b ^ (i + 1) := Nat.lt_of_le_of_lt h3 h2
  have c1 := (Nat.pow_lt_pow_iff_right (a := b) (by omega)).mp a1
  have c2 := (Nat.pow_lt_pow_iff_right (a := b) (by omega)).mp a2
  omega
/-! ### growths -/
def Gs : List (Nat × Nat) := [(1, 2), (2, 3), (2, 2), (4, 3), (5, 3), (3, 2), (6, 3), (7, 3), (8, 3), (4, 2), (5, 2), (6, 2), (7, 2), (8, 2), (9, 2), (16, 2), (32, 2), (64, 2), (128, 2), (256, 2), (512, 2)]
def rank (p : Nat × Nat) : Int := (Gs.findIdx (fun q => q == p) : Nat)
def fdiff (p q : Nat × Nat) (u : Nat) : Int := (flog p.2 (p.1 ^ u) : Int) - (flog q.2 (q.1 ^ u) : Int)
def chk (p q : Nat × Nat) : Bool :=
  decide (p = q) || ((List.range 6).any (fun u => decide (fdiff p q (u + 1) ≠ 0)) && (List.range 6).all (fun u => decide (fdiff p q (u + 1) = 0) || decide (sgn (fdiff p q (u + 1)) = sgn (rank p - rank q))) && (decide (p.2 ≠ q.2) || decide (sgn ((p.1 : Int) - q.1) = sgn (rank p - rank q))))
theorem chk_all : Gs.all (fun p => Gs.all (fun q => chk p q)) = true := by decide +kernel
theorem chk_of {p q : Nat × Nat} (hp : p ∈ Gs) (hq : q ∈ Gs) : chk p q = true := List.all_eq_true.mp (List.all_eq_true.mp chk_all p hp) q hq
theorem gs_small : ∀ p ∈ Gs, 1 ≤ p.1 ∧ p.1 ≤ 512 ∧ (p.2 = 2 ∨ p.2 = 3) ∧ (p.2 = 3 → p.1 % 3 ≠ 0 ∨ p.1 = 6) ∧ (p.2 = 3 → p.1 ≠ 1 ∧ p.1 ≠ 3 ∧ p.1 ≠ 9) := by
  have h : Gs.all (fun p => decide (1 ≤ p.1 ∧ p.1 ≤ 512 ∧ (p.2 = 2 ∨ p.2 = 3) ∧ (p.2 = 3 → p.1 % 3 ≠ 0 ∨ p.1 = 6) ∧ (p.2 = 3 → p.1 ≠ 1 ∧ p.1 ≠ 3 ∧ p.1 ≠ 9))) = true := by decide +kernel
  exact fun p hp => of_decide_eq_true (List.all_eq_true.mp h p hp)
theorem rank_nn (p : Nat × Nat) : 0 ≤ rank p := Int.natCast_nonneg _
/-- two unlike growths are told apart at a power of six at most, and the first one at which they are tells their order -/
theorem tell {p q : Nat × Nat} (hp : p ∈ Gs) (hq : q ∈ Gs) (hne : p ≠ q) :
    (∃ U, 1 ≤ U ∧ U ≤ 6 ∧ fdiff p q U ≠ 0) ∧ (∀ u, 1 ≤ u → u ≤ 6 → fdiff p q u ≠ 0 → sgn (fdiff p q u) = sgn (rank p - rank q)) ∧ (p.2 = q.2 → sgn ((p.1 : Int) - q.1) = sgn (rank p - rank q)) := by
  have h := chk_of hp hq
  unfold chk at h
  rw [decide_eq_false hne, Bool.false_or, Bool.and_eq_true, Bool.and_eq_true] at h
  obtain ⟨⟨h1, h2⟩, h3⟩ := h
  refine ⟨?_, fun u u1 u6 hu => ?_, fun he => ?_⟩
  · obtain ⟨u, hu, hd⟩ := List.any_eq_true.mp h1
    have := List.mem_range.mp hu
    exact ⟨u + 1, by omega, by omega, of_decide_eq_true hd⟩
  · have := List.all_eq_true.mp h2 (u - 1) (List.mem_range.mpr (by omega))
    rw [show u - 1 + 1 = u by omega, decide_eq_false hu, Bool.false_or] at this
    exact of_decide_eq_true this
  · rw [decide_eq_false (fun z => z he), Bool.false_or] at h3
    exact of_decide_eq_true h3
theorem sgn_ne {n : Int} (h : sgn n ≠ 0) : n ≠ 0 := fun e => h (by rw [e]; rfl)
abbrev Gr := Option ((Nat × Nat) × Nat)
def encG : Gr → D
  | none => .non
  | some (p, f) => .tup [.int p.1, .int p.2, .int f]
def GOk : Gr → Prop
  | none => True
  | some (p, f) => p ∈ Gs ∧ f ≤ 10
def gval : Gr → Int
  | none => 0
  | some (p, f) => 1 + rank p * 16 + f
theorem gval_ne {p q : Nat × Nat} {f g : Nat} (hp : p ∈ Gs) (hq : q ∈ Gs) (hf : f ≤ 10) (hg : g ≤ 10) (hne : p ≠ q) : sgn (gval (some (p, f)) - gval (some (q, g))) = sgn (rank p - rank q) ∧ sgn (rank p - rank q) ≠ 0 := by
  obtain ⟨⟨U, u1, u2, hU⟩, h2, _⟩ := tell hp hq hne
  have e := h2 U u1 u2 hU
  have hz : sgn (rank p - rank q) ≠ 0 := by
    rw [← e]
    rcases sgn_cases (fdiff p q U) with ⟨_, h⟩ | ⟨h, _⟩ | ⟨_, h⟩
    · rw [h]; decide
    · exact absurd h hU
    · rw [h]; decide
  refine ⟨?_, hz⟩
  show sgn (1 + rank p * 16 + f - (1 + rank q * 16 + g)) = _
  rcases sgn_cases (rank p - rank q) with ⟨h, k⟩ | ⟨h, k⟩ | ⟨h, k⟩
  · rw [k, sgn_neg (by omega)]
  · exact absurd k hz
  · rw [k, sgn_pos (by omega)]
theorem gval_eq {p : Nat × Nat} {f g : Nat} : gval (some (p, f)) - gval (some (p, g)) = (f : Int) - g := by
  show 1 + rank p * 16 + f - (1 + rank p * 16 + g) = _
  omega
theorem gval_some {p : Nat × Nat} {f : Nat} : 0 < gval (some (p, f)) := by
  have := rank_nn p
  show 0 < 1 + rank p * 16 + (f : Int)
  omega
/-- the order of growths is that of numbers -/
theorem ord_turn (x y : Int) : sgn (x - y) = 0 - sgn (y - x) := by
  rcases sgn_cases (x - y) with ⟨h, k⟩ | ⟨h, k⟩ | ⟨h, k⟩
  · rw [k, sgn_pos (by omega)]; rfl
  · rw [k, show y - x = 0 by omega]; rfl
  · rw [k, sgn_neg (by omega)]; rfl
theorem ord_three (x y z : Int) (h : 0 ≤ sgn (x - y)) : sgn (y - z) < 0 ∨ 0 ≤ sgn (x - z) := by
  rcases sgn_cases (x - y) with ⟨h1, k1⟩ | ⟨h1, k1⟩ | ⟨h1, k1⟩ <;> rcases sgn_cases (y - z) with ⟨h2, k2⟩ | ⟨h2, k2⟩ | ⟨h2, k2⟩ <;> rcases sgn_cases (x - z) with ⟨h3, k3⟩ | ⟨h3, k3⟩ | ⟨h3, k3⟩ <;> omega
theorem pow_small {p : Nat × Nat} {u : Nat} (hp : p ∈ Gs) (hu : u ≤ 60) : 1 ≤ p.1 ^ u ∧ p.1 ^ u < 2 ^ 700 := by
  obtain ⟨h1, h2, _⟩ := gs_small p hp
  refine ⟨Nat.pow_pos h1, ?_⟩
  have a : p.1 ^ u ≤ 512 ^ u := Nat.pow_le_pow_left h2 u
  have b : 512 ^ u ≤ 512 ^ 60 := Nat.pow_le_pow_right (by decide) hu
  have c : 512 ^ 60 < 2 ^ 700 := by decide +kernel
  omega
theorem flog_spec {p : Nat × Nat} {u : Nat} (hp : p ∈ Gs) (hu : u ≤ 60) : p.2 ^ flog p.2 (p.1 ^ u) ≤ p.1 ^ u ∧ p.1 ^ u < p.2 ^ (flog p.2 (p.1 ^ u) + 1) := by
  obtain ⟨h1, h2⟩ := pow_small hp hu
  obtain ⟨_, _, h3, _⟩ := gs_small p hp
  exact flogF_spec 700 _ _ (by omega) h1 h2
/-! ### promises -/
def spSign : Sp := fun vs H Q _ => ∃ n : Int, vs = [.int n] ∧ Q (.int (sgn n)) H
def spPower : Sp := fun vs H Q _ => ∃ (b : Int) (e : Nat), vs = [.int b, .int e] ∧ -(2 ^ 64) < b ∧ b < 2 ^ 64 ∧ e ≤ 1000 ∧ Q (.int (b ^ e)) H
def spToldG : Sp := fun vs H Q _ => ∃ (p : Nat × Nat) (f : Nat), vs = [.int p.1, .int p.2, .int f] ∧ p ∈ Gs ∧ ∀ v H', Same H H' → Rp H' v (encG (some (p, f))) → Q v H'
def spWhole : Sp := fun vs H Q _ => ∃ (v : V) (p : Nat × Nat) (f u : Nat), vs = [v, .int u] ∧ Rp H v (encG (some (p, f))) ∧ p ∈ Gs ∧ 1 ≤ u ∧ u ≤ 60 ∧ Q (.int (flog p.2 (p.1 ^ u))) H
def spRoot : Sp := fun vs H Q _ => ∃ (p : Nat × Nat) (u : Nat), vs = [.int p.1, .int p.2, .int u] ∧ p ∈ Gs ∧ 1 ≤ u ∧ u ≤ 60 ∧ Q (.int (flog p.2 (p.1 ^ u))) H
def spOrder : Sp := fun vs H Q _ => ∃ (v w : V) (p q : Nat × Nat) (f g : Nat), vs = [v, w] ∧ Rp H v (encG (some (p, f))) ∧ Rp H w (encG (some (q, g))) ∧ p ∈ Gs ∧ q ∈ Gs ∧ Q (.int (sgn (rank p - rank q))) H
def spGreater : Sp := fun vs H Q _ => ∃ (v w : V) (g h : Gr), vs = [v, w] ∧ Rp H v (encG g) ∧ Rp H w (encG h) ∧ GOk g ∧ GOk h ∧ ∀ H', Same H H' → Q (.int (sgn (gval g - gval h))) H'
def spDrawnG : Sp := fun vs H Q _ => ∃ (d L : Addr), vs = [.ref d] ∧ Dr H d L ∧ ∀ (v : V) (g : Gr) (H' : Hp), Rp H' v (encG g) → GOk g → Dr H' d L → Go (· = d) H H' → Q v H'
end OG

set_option Elab.async false
set_option linter.all false
set_option maxRecDepth 100000
set_option maxHeartbeats 4000000
namespace OG
open PySem PySem.Spec PyProof.Rows L2
/-! ### a comprehension over a list, its element a call that leaves all as it was -/
theorem lc_list_map {K : PySem.W.Frag} {a : Addr} {xs : List V} {g : TG} {te : TE} {vs : List Nat} {σ : L2.St} {H1 : Hp} {D : Addr} {Qd : Hp → Prop} (ys : List V) (i0 : Nat) (hg : g = gName i0) (hw : ∀ v, wipe ((wipe σ vs).set i0 v) vs = wipe σ vs)
    (hlen : ys.length = xs.length) (hz : xs.length < 100000) (hS : H1 a = some (.lst xs)) (hD : H1 D = none)
    (he : ∀ (i : Nat) (x y : V) (H2 : Hp) (Q : VK), xs[i]? = some x → ys[i]? = some y → Same H1 H2 → (∀ H3, Same H2 H3 → Q y H3) → te ((wipe σ vs).set i0 (some x)) H2 Q)
    (hd : ∀ H', Same H1 H' → H' D = some (.lst ys) → Qd H') :
    ∃ W : Nat → Nat → Hp → Prop, (∃ m, W 0 m (upd H1 D (.lst []))) ∧ ∀ i m H, W i m H →
      ((Itl K a).stop i H ∧ Qd H) ∨ ((Itl K a).go i H ∧ ∃ Nx : Hp → Prop, (∀ H', Nx H' → ∃ m', m' < m ∧ W (i + 1) m' H') ∧ ∀ x H', (Itl K a).yld i H x H' → g x (wipe σ vs) H' fun σ2 H2 => wipe σ2 vs = wipe σ vs ∧ tYes σ2 H2 fun b H3 =>
        if b = true then te σ2 H3 fun y H4 => ∃ acc, H4 D = some (.lst acc) ∧ acc.length < sizeLine ∧ Nx (upd H4 D (.lst (acc ++ [y]))) else Nx H3) := by
  subst hg
  refine lc_list (xs := xs) (fun i H' => Same H1 H' ∧ H' D = some (.lst (ys.take i))) ⟨same_new hD, upd_same⟩ (fun i H' hi hP => SqL.of (hP.1 _ _ hS)) (fun i x H' hx hP => ?_) (fun H' hP => ?_)
  · obtain ⟨sm, hl⟩ := hP
    have hi : i < ys.length := by
      rw [hlen]
      obtain ⟨h, _⟩ := List.getElem?_eq_some_iff.mp hx
      exact h
    refine ⟨hw _, yes_go ?_⟩
    refine he i x ys[i] H' _ hx (List.getElem?_eq_getElem hi) sm fun H3 s3 => ?_
    refine ⟨ys.take i, s3 _ _ hl, ?_, Same.upd_new (sm.trans s3) hD, ?_⟩
    · rw [List.length_take]
      exact szl (by omega)
    · rw [upd_same, List.take_add_one, List.getElem?_eq_getElem hi]
      rfl
  · obtain ⟨sm, hl⟩ := hP
    rw [← hlen, List.take_length] at hl
    exact hd H' sm hl
/-- two lists of like flat values -/
theorem eq2_flats {H : Hp} {p q : Addr} {vs : List V} (n : Nat) (hp : H p = some (.lst vs)) (hq : H q = some (.lst vs)) (hf : vs.all flatV = true) (hl : vs.length < 100000) : Eq2 H (n + 1) (.ref p) (.ref q) :=
  .inr ⟨p, q, vs, vs, rfl, rfl, .inr ⟨hp, hq⟩, rfl, hl, fun k x y hx hy => by
    have e : x = y := Option.some.inj (hx.symm.trans hy)
    subst e
    exact Eq2.flat (List.all_eq_true.mp hf x (List.mem_of_getElem? hx)) n⟩
theorem atI_get {α : Type} {xs : List α} {i : Nat} {x : α} (h : xs[i]? = some x) : atI xs ((i : Nat) : Int) = some x := atI_nat h
/-! ### rows of an order -/
def rowL (xs : List Int) (x : Int) : List V := xs.map fun y => V.int (sgn (x - y))
theorem rowL_len (xs : List Int) (x : Int) : (rowL xs x).length = xs.length := List.length_map _
theorem rowL_get {xs : List Int} {x y : Int} {i : Nat} (h : xs[i]? = some y) : (rowL xs x)[i]? = some (.int (sgn (x - y))) := by
  unfold rowL
  rw [List.getElem?_map, h]
  rfl
theorem rowL_flat (xs : List Int) (x : Int) : (rowL xs x).all flatV = true := by
  rw [List.all_eq_true]
  intro v hv
  obtain ⟨y, _, rfl⟩ := List.mem_map.mp hv
  rfl
theorem rpl_gr {H : Hp} {vs : List V} {gs : List Gr} (h : RpL H vs (gs.map encG)) {i : Nat} {x : V} (hx : vs[i]? = some x) : ∃ g, gs[i]? = some g ∧ Rp H x (encG g) := by
  obtain ⟨d, hd, hr⟩ := h.get hx
  rw [List.getElem?_map] at hd
  cases ht : gs[i]? with
  | none => rw [ht] at hd; cases hd
  | some t =>
    rw [ht] at hd
    have : encG t = d := Option.some.inj hd
    exact ⟨t, rfl, this ▸ hr⟩
theorem gvals_get {gs : List Gr} {i : Nat} {g : Gr} (h : gs[i]? = some g) : (gs.map gval)[i]? = some (gval g) := by
  rw [List.getElem?_map, h]
  rfl
/-- the rows of marks made so far -/
def Marks (H : Hp) (M : Addr) (xs : List Int) (rs : List Addr) : Prop := H M = some (.lst (rs.map V.ref)) ∧ ∀ (j : Nat) (r : Addr), rs[j]? = some r → ∃ x, xs[j]? = some x ∧ H r = some (.lst (rowL xs x))
theorem Marks.same {H H' : Hp} {M : Addr} {xs : List Int} {rs : List Addr} (h : Marks H M xs rs) (s : Same H H') : Marks H' M xs rs :=
  ⟨s _ _ h.1, fun j r hj => by
    obtain ⟨x, h1, h2⟩ := h.2 j r hj
    exact ⟨x, h1, s _ _ h2⟩⟩
end OG

set_option Elab.async false
set_option linter.all false
set_option maxRecDepth 100000
set_option maxHeartbeats 4000000
namespace OG
open PySem PySem.Spec PyProof.Rows L2
/-! ### sorted(d), d a dict whose keys are pairs of ints -/
def keyAt (H : Hp) (b : Addr) : Int × Int := match H b with
  | some (.tup [.int i, .int j]) => (i, j)
  | _ => (0, 0)
def addrOf : Value → Addr
  | .ref a => a
  | _ => 0
theorem keyAt_of {H : Hp} {b : Addr} {i j : Int} (h : H b = some (.tup [.int i, .int j])) : keyAt H b = (i, j) := by
  unfold keyAt
  rw [h]
abbrev pairK (p : Int × Int) : List Key := [Sum.inl p.1, Sum.inl p.2]
def rSortDT : List V → Hp → VK → Prop := fun xs H Q => ∃ (a : Addr) (kvs : List (List Key × V)) (ks : List (Int × Int)), xs = [.ref a] ∧ Rd H a (.dT kvs) ∧ kvs.map (·.1) = ks.map pairK ∧
  ∀ (bs : List Addr) (p : Addr), (bs.map (keyAt H)).Perm ks → (∀ b ∈ bs, H b = some (.tup [.int (keyAt H b).1, .int (keyAt H b).2])) → SrtO.Srtd (fun x y => SrtO.lexB (keyAt H x) (keyAt H y)) bs → H p = none → Q (.ref p) (upd H p (.lst (bs.map V.ref)))
theorem keys_paired {H : Hp} : ∀ {kvs : List (List Key × V)} {bs : List Addr} {ks : List (Int × Int)}, IsKeys H kvs bs → kvs.map (·.1) = ks.map pairK → bs.map (keyAt H) = ks ∧ ∀ b ∈ bs, H b = some (.tup [.int (keyAt H b).1, .int (keyAt H b).2])
  | [], [], [], _, _ => ⟨rfl, fun _ h => by cases h⟩
  | [], [], k :: ks, _, e => by cases e
  | kv :: kvs, b :: bs, [], _, e => by cases e
  | kv :: kvs, b :: bs, k :: ks, h, e => by
    cases h with
    | cons h t =>
      have e1 : kv.1 = pairK k := (List.cons.inj e).1
      have e2 : kvs.map (·.1) = ks.map pairK := (List.cons.inj e).2
      obtain ⟨i1, i2⟩ := keys_paired t e2
      rw [e1] at h
      have hb : H b = some (.tup [.int k.1, .int k.2]) := h
      have hk := keyAt_of hb
      refine ⟨by rw [List.map_cons, i1, hk], fun c hc => ?_⟩
      rcases List.mem_cons.mp hc with rfl | hc
      · rw [hk]
        exact hb
      · exact i2 c hc
/-- what is gathered of a dict's entries: the places of its keys, in their order -/
theorem keys_gathered {P : Program} {w : World} {kts : List (List Key × Addr × Value)} {ents : Array DictEntry} (hE : ents.toList = kts.map (entryOfKey (tupleKind (mixKind P w)))) {got : Array Value}
    (hI : ItemsOf (fun i v => ∃ en : DictEntry, ents[i]? = some en ∧ v = en.key) got ents.size) : got.toList = (kts.map fun t => t.2.1).map Value.ref := by
  have hk : ents.toList.map (·.key) = (kts.map fun t => t.2.1).map Value.ref := by
    rw [hE, List.map_map, List.map_map]
    rfl
  rw [← hk]
  refine List.ext_getElem? fun j => ?_
  by_cases hlt : j < got.size
  · obtain ⟨en, k1, k2⟩ := hI.2 j got[j] (by simp [hlt])
    have k3 : ents.toList[j]? = some en := by simpa using k1
    rw [List.getElem?_map, k3]
    have k4 : got.toList[j]? = some got[j] := by simp [hlt]
    rw [k4, k2]
    rfl
  · have k1 : got.toList.length ≤ j := by simpa using hlt
    have k2 : (ents.toList.map (·.key)).length ≤ j := by
      rw [List.length_map, Array.length_toList, ← hI.1]
      simpa using hlt
    rw [List.getElem?_eq_none k1, List.getElem?_eq_none k2]
/-- a list of the values vs at its end, a new one behind all -/
abbrev withList (h : Heap) (vs : List Value) : Heap := h.push (seqObj "list" vs.toArray 0)
theorem call_sortedDT {X : Cx} (calm : X.calm = true) : CallR X (.builtin "sorted") rSortDT := by
  intro pins sh st H args vals Qv inv rel ask
  obtain ⟨dct, table, kl, rfl, held, keysEq, wish⟩ := ask
  obtain ⟨arg, rfl, rarg⟩ := rel.one
  cases rarg
  obtain ⟨small, notSys, kts, paired, obj, ents, nx, at0, exact0, data0, entEq, _⟩ := (show ObjOk X.prog X.w H sh.heap dct (.dT table) from held.ok inv.hok)
  have sizeE : ents.size = kts.length := size_of_entries entEq
  have sizeT : table.length = kts.length := Paired.length paired
  obtain ⟨back, tupAt⟩ := keys_paired (isKeys_of paired) keysEq
  refine Calls.call_function_entry kind_sorted plain_sorted entry_sorted (args_sorted1 _) ?_
  unfold Builtin.«sorted»
  refine wpAny_bind (m := checkCount "sorted" 1 1 _) (wpAny_pure (wpAny_bind ?_))
  refine PySem.W.kdu_collect (A := X.A.in1) (kdl_raw notSys exact0 data0) (inv.ok.hd calm) at0 (by omega) fun hp tok got keep items => ?_
  have gotEq := keys_gathered entEq items
  have inv1 : Inv X pins st H { sh with heap := hp, toks := tok } := inv.kept keep
  have fits : got.toList.length ≤ sizeLine := by
    rw [gotEq, List.length_map, List.length_map]
    omega
  refine wpAny_bind (wpAny_newList (items := got.toList) ?_ fits)
  have newAt : (withList hp got.toList).get? hp.objs.size = some (seqObj "list" got.toList.toArray 0) := Heap.get?_push_size _ rfl
  have pairs : ∀ v ∈ got.toList, Srt.IsPair (withList hp got.toList) v (keyAt H (addrOf v)).1 (keyAt H (addrOf v)).2 := fun v hv => by
    rw [gotEq] at hv
    obtain ⟨b, hb, rfl⟩ := List.mem_map.mp hv
    obtain ⟨_, its, both, ob, o1, o2, c, o3⟩ := inv1.hok _ _ (tupAt b hb)
    obtain ⟨i1, i2, rfl, e1, e2⟩ := vals2 both
    obtain ⟨k1, rfl⟩ := e1
    obtain ⟨k2, rfl⟩ := e2
    exact ⟨b, ob, k1, k2, c, rfl, Heap.get?_push_of_some _ o1, o2, o3⟩
  show wpAny _ _ _ _ _ { sh with heap := withList hp got.toList, toks := tok }
  have sortable : 2 ≤ got.toList.length → SrtO.SortableO X.prog X.w X.A.in1.in1 { sh with heap := withList hp got.toList, toks := tok } hp.objs.size got.toList fun v u => SrtO.lexB (keyAt H (addrOf v)) (keyAt H (addrOf u)) := fun two =>
    SrtO.pairs_sortableO (k := fun v => keyAt H (addrOf v)) (by omega) pairs fun o same => by
      have hs : some o = some (seqObj "list" got.toList.toArray 0) := same.symm.trans newAt
      cases hs
      exact fun c => absurd (Value.type.inj c) (by decide)
  refine wpAny_bind (wpAny_holding (wpAny_call_entry slot_list_sort ⟨_, newAt, rfl⟩ entry_list_sort
    (SrtO.list_sort_ord (s := { sh with heap := withList hp got.toList, toks := tok }) (SrtO.swo_lex fun v => keyAt H (addrOf v)) newAt fits sortable fun out up stb => ⟨_, rfl, ?_⟩) (args_list_sort _)))
  obtain ⟨n', sortedAt⟩ := sortedHeap_at (vs := got.toList) (out := out.toArray) newAt
  have refs : ∀ v ∈ out, Value.ref (addrOf v) = v := fun v hv => by
    have hm := stb.perm.mem_iff.mp hv
    rw [gotEq] at hm
    obtain ⟨b, _, rfl⟩ := List.mem_map.mp hm
    rfl
  have outEq : (out.map addrOf).map Value.ref = out := by
    rw [List.map_map]
    exact (List.map_congr_left refs).trans (List.map_id _)
  have perm : (out.map addrOf).Perm (kts.map fun t => t.2.1) := by
    have p1 := stb.perm.map addrOf
    rw [gotEq, List.map_map] at p1
    exact p1.trans (List.Perm.of_eq (List.map_id _))
  have rels : Vals ((out.map addrOf).map V.ref) out := by
    have r1 := vals_refs (out.map addrOf)
    rw [outEq] at r1
    exact r1
  have fits2 : ((out.map addrOf).map V.ref).length ≤ sizeLine := by
    rw [List.length_map, List.length_map, stb.perm.length_eq]
    exact fits
  have laid : Inv X pins st (upd H hp.objs.size (.lst ((out.map addrOf).map V.ref))) { sh with heap := sortedHeap (withList hp got.toList) hp.objs.size got.toList out.toArray, toks := tok } :=
    inv1.laid (t' := tok) (fun b u e => by
      have before := Heap.lt_size e
      rw [sortedHeap_old (Nat.ne_of_lt before) (by rw [size_push']; exact Nat.lt_succ_of_lt before)]
      exact Heap.get?_push_of_some _ e) (Nat.le_refl _) ⟨fits2, out, n', rels, sortedAt⟩
  refine wpAny_pure ⟨_, rfl, .ref hp.objs.size, _, laid, rfl, wish (out.map addrOf) _ ?_ (fun b hb => tupAt b (perm.mem_iff.mp hb)) (List.pairwise_map.mpr up) (inv1.hok.fresh (Nat.le_refl _))⟩
  have p2 := perm.map (keyAt H)
  rw [back] at p2
  exact p2
end OG

set_option Elab.async false
set_option linter.all false
set_option maxRecDepth 100000
set_option maxHeartbeats 4000000
namespace OG
open PySem PySem.Spec PyProof.Rows L2
/-! ### drawing from many sides -/
def spTakeW : Sp := fun vs H Q _ => ∃ (d L : Addr) (k : Int), vs = [.ref d, .int k] ∧ Dr H d L ∧ 1 ≤ k ∧ k < 2 ^ 200 ∧
  ∀ (g : Int) (H' : Hp), 0 ≤ g → g < k → Dr H' d L → But d H H' → Q (.int g) H'
theorem take_of_wide : ∀ vs H Q E, spTake vs H Q E → spTakeW vs H Q E := fun vs H Q E h => by
  obtain ⟨d, L, k, h1, h2, h3, h4, q⟩ := h
  exact ⟨d, L, k, h1, h2, h3, by omega, q⟩
/-! ### terms and rows -/
abbrev Term := (Int × Int) × (Int × Int)
def encP (p : Int × Int) : D := .tup [.int p.1, .int p.2]
def encT (t : Term) : D := .tup [encP t.1, encP t.2]
abbrev Row := Int × List Term
/-- what a drawn term is -/
structure TermOk (top deep wide : Int) (t : Term) : Prop where
  p0 : 0 ≤ t.1.1
  p1 : t.1.1 ≤ top
  f0 : 0 ≤ t.1.2
  f1 : t.1.2 ≤ deep
  nz : t.2.1 ≠ 0
  o1 : t.2.1.natAbs ≤ wide.toNat
  u0 : 1 ≤ t.2.2
  u1 : t.2.2 ≤ 2
def Falls (ts : List Term) : Prop := ts.Pairwise fun x y => SrtO.lexB y.1 x.1 = true
/-- at l stands a list of these terms -/
def TermsAt (H : Hp) (l : Addr) (ts : List Term) : Prop := ∃ us, H l = some (.lst us) ∧ RpL H us (ts.map encT)
theorem TermsAt.same {H H' : Hp} {l : Addr} {ts : List Term} (h : TermsAt H l ts) (s : Same H H') : TermsAt H' l ts := by
  obtain ⟨us, h1, h2⟩ := h
  exact ⟨us, s _ _ h1, h2.to (Imm.same s)⟩
theorem TermsAt.go {M : Addr → Prop} {H H' : Hp} {l : Addr} {ts : List Term} (h : TermsAt H l ts) (g : Go M H H') (n : ¬ M l) : TermsAt H' l ts := by
  obtain ⟨us, h1, h2⟩ := h
  exact ⟨us, g.at h1 n, h2.to g.im⟩
theorem TermsAt.upd {H : Hp} {l p : Addr} {ts : List Term} {o : HO} {xs : List V} (h : TermsAt H l ts) (n : l ≠ p) (hp : H p = some (.lst xs)) : TermsAt (upd H p o) l ts := by
  obtain ⟨us, h1, h2⟩ := h
  refine ⟨us, ?_, h2.to ((Imm.refl H).upd fun ys e => by rw [hp] at e; cases e)⟩
  rw [upd_ne n]
  exact h1
def RowAt (H : Hp) (u : V) (r : Row) (l : Addr) : Prop := ∃ a, u = .ref a ∧ H a = some (.tup [.int r.1, .ref l]) ∧ TermsAt H l r.2
theorem RowAt.same {H H' : Hp} {u : V} {r : Row} {l : Addr} (h : RowAt H u r l) (s : Same H H') : RowAt H' u r l := by
  obtain ⟨a, h1, h2, h3⟩ := h
  exact ⟨a, h1, s _ _ h2, h3.same s⟩
theorem RowAt.go {M : Addr → Prop} {H H' : Hp} {u : V} {r : Row} {l : Addr} (h : RowAt H u r l) (g : Go M H H') (n : ¬ M l) : RowAt H' u r l := by
  obtain ⟨a, h1, h2, h3⟩ := h
  exact ⟨a, h1, g.im _ _ h2, h3.go g n⟩
theorem RowAt.upd {H : Hp} {u : V} {r : Row} {l p : Addr} {o : HO} {xs : List V} (h : RowAt H u r l) (n : l ≠ p) (hp : H p = some (.lst xs)) : RowAt (upd H p o) u r l := by
  obtain ⟨a, h1, h2, h3⟩ := h
  refine ⟨a, h1, ?_, h3.upd n hp⟩
  have : a ≠ p := ne_of h2 hp (fun z => by cases z)
  rw [upd_ne this]
  exact h2
inductive RowsAt (H : Hp) : List V → List Row → List Addr → Prop where
  | nil : RowsAt H [] [] []
  | cons {u : V} {r : Row} {l : Addr} {us : List V} {rs : List Row} {ls : List Addr} (h : RowAt H u r l) (t : RowsAt H us rs ls) : RowsAt H (u :: us) (r :: rs) (l :: ls)
theorem RowsAt.same {H H' : Hp} (s : Same H H') {us : List V} {rs : List Row} {ls : List Addr} (h : RowsAt H us rs ls) : RowsAt H' us rs ls := by
  induction h with
  | nil => exact .nil
  | cons h t ih => exact .cons (h.same s) ih
theorem RowsAt.go {M : Addr → Prop} {H H' : Hp} (g : Go M H H') {us : List V} {rs : List Row} {ls : List Addr} (h : RowsAt H us rs ls) (n : ∀ l ∈ ls, ¬ M l) : RowsAt H' us rs ls := by
  induction h with
  | nil => exact .nil
  | cons h t ih => exact .cons (h.go g (n _ List.mem_cons_self)) (ih fun l hl => n l (List.mem_cons_of_mem _ hl))
theorem RowsAt.upd {H : Hp} {p : Addr} {o : HO} {xs : List V} (hp : H p = some (.lst xs)) {us : List V} {rs : List Row} {ls : List Addr} (h : RowsAt H us rs ls) (n : ∀ l ∈ ls, l ≠ p) : RowsAt (upd H p o) us rs ls := by
  induction h with
  | nil => exact .nil
  | cons h t ih => exact .cons (h.upd (n _ List.mem_cons_self) hp) (ih fun l hl => n l (List.mem_cons_of_mem _ hl))
theorem RowsAt.append {H : Hp} {us us2 : List V} {rs rs2 : List Row} {ls ls2 : List Addr} (h : RowsAt H us rs ls) (k : RowsAt H us2 rs2 ls2) : RowsAt H (us ++ us2) (rs ++ rs2) (ls ++ ls2) := by
  induction h with
  | nil => exact k
  | cons h t ih => exact .cons h ih
theorem RowsAt.len {H : Hp} {us : List V} {rs : List Row} {ls : List Addr} (h : RowsAt H us rs ls) : us.length = rs.length ∧ ls.length = rs.length := by
  induction h with
  | nil => exact ⟨rfl, rfl⟩
  | cons h t ih => exact ⟨by rw [List.length_cons, List.length_cons, ih.1], by rw [List.length_cons, List.length_cons, ih.2]⟩
theorem RowsAt.get {H : Hp} : ∀ {us : List V} {rs : List Row} {ls : List Addr} {i : Nat} {u : V}, RowsAt H us rs ls → us[i]? = some u → ∃ r l, rs[i]? = some r ∧ ls[i]? = some l ∧ RowAt H u r l
  | _, _, _, i, u, .nil, hu => by simp at hu
  | _, _, _, 0, u, .cons h t, hu => by
    have e := Option.some.inj hu
    subst e
    exact ⟨_, _, rfl, rfl, h⟩
  | _, _, _, i + 1, u, .cons h t, hu => RowsAt.get (i := i) t hu
/-- at S stand these sums -/
def SumsAt (H : Hp) (S : Addr) (rs : List Row) (ls : List Addr) : Prop := ∃ us, H S = some (.lst us) ∧ RowsAt H us rs ls
theorem SumsAt.same {H H' : Hp} {S : Addr} {rs : List Row} {ls : List Addr} (h : SumsAt H S rs ls) (s : Same H H') : SumsAt H' S rs ls := by
  obtain ⟨us, h1, h2⟩ := h
  exact ⟨us, s _ _ h1, h2.same s⟩
theorem SumsAt.go {M : Addr → Prop} {H H' : Hp} {S : Addr} {rs : List Row} {ls : List Addr} (h : SumsAt H S rs ls) (g : Go M H H') (n : ¬ M S) (m : ∀ l ∈ ls, ¬ M l) : SumsAt H' S rs ls := by
  obtain ⟨us, h1, h2⟩ := h
  exact ⟨us, g.at h1 n, h2.go g m⟩
/-! ### the dict of terms that are drawn -/
theorem putK_keys {κ : Type} [DecidableEq κ] {kvs : List (κ × V)} {k : κ} {x : V} (v : V) (h : valV kvs k = some x) : (putK kvs k v).map (·.1) = kvs.map (·.1) := by
  have ha := valV_any k kvs
  rw [h] at ha
  have ha' : (kvs.any fun kv => decide (kv.1 = k)) = true := ha
  unfold putK
  rw [if_pos ha', List.map_map]
  refine List.map_congr_left fun kv _ => ?_
  show (if kv.1 = k then (kv.1, v) else kv).1 = kv.1
  split <;> rfl
theorem pairK_inj {p q : Int × Int} (h : pairK p = pairK q) : p = q := by
  have h1 := (List.cons.inj h).1
  have h2 := (List.cons.inj (List.cons.inj h).2).1
  obtain ⟨a, b⟩ := p
  obtain ⟨c, d⟩ := q
  have e1 : a = c := Sum.inl.inj h1
  have e2 : b = d := Sum.inl.inj h2
  rw [e1, e2]
def TDict (H : Hp) (F : Addr) (P : Int × Int → Int × Int → Prop) (n : Nat) : Prop := ∃ (kvs : List (List Key × V)) (ks : List (Int × Int)), H F = some (.dT kvs) ∧ kvs.map (·.1) = ks.map pairK ∧ ks.Nodup ∧ ks.length ≤ n ∧
  ∀ p ∈ ks, ∃ v o, valV kvs (pairK p) = some v ∧ Rp H v (encP o) ∧ P p o
theorem TDict.to {H H' : Hp} {F : Addr} {P : Int × Int → Int × Int → Prop} {n : Nat} (h : TDict H F P n) (e : H' F = H F) (i : Imm H H') : TDict H' F P n := by
  obtain ⟨kvs, ks, h1, h2, h3, h4, h5⟩ := h
  refine ⟨kvs, ks, e.trans h1, h2, h3, h4, fun p hp => ?_⟩
  obtain ⟨v, o, a, b, c⟩ := h5 p hp
  exact ⟨v, o, a, b.to i, c⟩
theorem TDict.put {H : Hp} {F : Addr} {P : Int × Int → Int × Int → Prop} {n : Nat} (h : TDict H F P n) {kvs : List (List Key × V)} (hF : H F = some (.dT kvs)) {p o : Int × Int} {v : V} (hv : Rp H v (encP o)) (hP : P p o) :
    TDict (upd H F (.dT (putK kvs (pairK p) v))) F P (n + 1) := by
  obtain ⟨kvs', ks, h1, h2, h3, h4, h5⟩ := h
  have e : kvs' = kvs := by
    rw [hF] at h1
    exact (HO.dT.inj (Option.some.inj h1)).symm
  subst e
  have i : Imm H (upd H F (.dT (putK kvs' (pairK p) v))) := (Imm.refl H).upd fun xs z => by rw [hF] at z; cases z
  by_cases hm : p ∈ ks
  · obtain ⟨v0, o0, a0, _, _⟩ := h5 p hm
    refine ⟨_, ks, upd_same, (putK_keys v a0).trans h2, h3, by omega, fun q hq => ?_⟩
    rw [valV_put]
    by_cases hqp : q = p
    · subst hqp
      exact ⟨v, o, if_pos rfl, hv.to i, hP⟩
    · obtain ⟨v1, o1, a1, b1, c1⟩ := h5 q hq
      exact ⟨v1, o1, by rw [if_neg fun z => hqp (pairK_inj z)]; exact a1, b1.to i, c1⟩
  · have hn : valV kvs' (pairK p) = none := by
      cases hz : valV kvs' (pairK p) with
      | none => rfl
      | some x =>
        have hx := valV_any (pairK p) kvs'
        rw [hz] at hx
        obtain ⟨kv, hkv, hd⟩ := List.any_eq_true.mp hx
        have : kv.1 ∈ kvs'.map (·.1) := List.mem_map.mpr ⟨kv, hkv, rfl⟩
        rw [h2, of_decide_eq_true hd] at this
        obtain ⟨q, hq, e⟩ := List.mem_map.mp this
        rw [pairK_inj e] at hq
        exact absurd hq hm
    refine ⟨_, ks ++ [p], upd_same, ?_, ?_, by rw [List.length_append]; show ks.length + 1 ≤ n + 1; omega, fun q hq => ?_⟩
    · rw [putK_new v hn, List.map_append, List.map_append, h2]
      rfl
    · rw [List.nodup_append]
      refine ⟨h3, by simp, fun a ha b hb => ?_⟩
      rw [List.mem_singleton.mp hb]
      exact fun e => hm (e ▸ ha)
    · rw [valV_put]
      rcases List.mem_append.mp hq with hq | hq
      · have hqp : q ≠ p := fun e => hm (e ▸ hq)
        obtain ⟨v1, o1, a1, b1, c1⟩ := h5 q hq
        exact ⟨v1, o1, by rw [if_neg fun z => hqp (pairK_inj z)]; exact a1, b1.to i, c1⟩
      · rw [List.mem_singleton.mp hq]
        exact ⟨v, o, if_pos rfl, hv.to i, hP⟩
/-! ### promises -/
def spGcd : Sp := fun vs H Q _ => ∃ a b : Int, vs = [.int a, .int b] ∧ Q (.int (Int.gcd a b : Nat)) H
def lowOf (o u : Int) : Int × Int := (o / (Int.gcd o u : Nat), u / (Int.gcd o u : Nat))
def spLowest : Sp := fun vs H Q _ => ∃ o u : Int, vs = [.int o, .int u] ∧ 1 ≤ u ∧ u.natAbs < 2 ^ 8000 ∧ ∀ v H', Same H H' → Rp H' v (encP (lowOf o u)) → Q v H'
def spTerms : Sp := fun vs H Q _ => ∃ (d L : Addr) (top deep wide : Int), vs = [.ref d, .int top, .int deep, .int wide] ∧ Dr H d L ∧ 0 ≤ top ∧ top ≤ 9 ∧ 0 ≤ deep ∧ deep ≤ 9 ∧ 1 ≤ wide ∧ wide < 2 ^ 100 ∧
  ∀ (l : Addr) (ts : List Term) (H' : Hp), H l = none → l ≠ d → TermsAt H' l ts → (∀ t ∈ ts, TermOk top deep wide t) → ts.length ≤ 3 → Falls ts → Dr H' d L → Go (· = d) H H' → Q (.ref l) H'
/-- the rows of drawn sums -/
structure RowsOk (top deep wide : Int) (rs : List Row) : Prop where
  n0 : rs ≠ []
  n4 : rs.length ≤ 4
  terms : ∀ r ∈ rs, (∀ t ∈ r.2, TermOk top deep wide t) ∧ r.2.length ≤ 3 ∧ Falls r.2
  first : (rs.head?.map (·.1)) = some 0
  rises : (rs.map (·.1)).Pairwise (· < ·)
  since : ∀ r ∈ rs, 0 ≤ r.1 ∧ r.1 ≤ 60
def spSums : Sp := fun vs H Q _ => ∃ (d L : Addr) (top deep wide : Int), vs = [.ref d, .int top, .int deep, .int wide] ∧ Dr H d L ∧ 0 ≤ top ∧ top ≤ 9 ∧ 0 ≤ deep ∧ deep ≤ 9 ∧ 1 ≤ wide ∧ wide < 2 ^ 100 ∧
  ∀ (S : Addr) (rs : List Row) (ls : List Addr) (H' : Hp), H S = none → S ≠ d → (∀ l ∈ ls, H l = none ∧ l ≠ d ∧ l ≠ S) → SumsAt H' S rs ls → RowsOk top deep wide rs → Dr H' d L → Go (· = d) H H' → Q (.ref S) H'
end OG

set_option Elab.async false
set_option linter.all false
set_option maxRecDepth 100000
set_option maxHeartbeats 4000000
namespace OG
open PySem PySem.Spec PyProof.Rows L2
/-! ### sums as they are written -/
def Sm (i : Int) : Prop := i.natAbs.log2 < 101
theorem Sm.of {i : Int} (h : i.natAbs ≤ 2 ^ 100) : Sm i := by
  have : i.natAbs < 2 ^ 101 := Nat.lt_of_le_of_lt h (by decide)
  exact PySem.Flt.log2_lt_of (by decide) this
theorem Sm.log {i : Int} (h : Sm i) : i.natAbs.log2 < 1920 := Nat.lt_trans h (by decide)
theorem Sm.len {i : Int} (h : Sm i) : (toString i : Str).length ≤ 102 := by
  have := int_text_length_le (a := i) (k := 101) (by decide) h
  have e : (toString i : Str).length = (toString i : String).length := by
    show (Str.ofString (toString i)).length = _
    exact PySem.ofString_length _
  rw [e]
  exact this
theorem Sm.numL {i : Int} (h : Sm i) : (numL i).length ≤ 102 := by
  have := h.len
  rw [len_tl] at this
  exact this
def partL (o : Int × Int) : List Nat := if o.2 = 1 then numL o.1 else numL o.1 ++ tl "/" ++ numL o.2
def powL (z : Str) (e : Int) : List Nat := if e = 0 then [] else if e = 1 then tl " " ++ tl z else tl " " ++ tl z ++ tl "^" ++ numL e
def termTx (t : Term) : List Nat := partL t.2 ++ powL "n" t.1.1 ++ powL "d" t.1.2
def termsTx (ts : List Term) : List Nat := if ts = [] then tl "0" else TL.joinL (tl " + ") (ts.map termTx)
def rowTx (r : Row) : List Nat := numL r.1 ++ tl ": " ++ termsTx r.2
def sumsTx (rs : List Row) : List Nat := TL.joinL (tl " | ") (rs.map rowTx)
structure TSm (t : Term) : Prop where
  a : Sm t.1.1
  b : Sm t.1.2
  c : Sm t.2.1
  d : Sm t.2.2
  p : 0 ≤ t.1.1
  f : 0 ≤ t.1.2
theorem part_len2 {o : Int × Int} (h1 : Sm o.1) (h2 : Sm o.2) : (partL o).length ≤ 210 := by
  have a := h1.numL
  have b := h2.numL
  have c : (tl "/").length = 1 := by decide +kernel
  unfold partL
  split
  · omega
  · rw [List.length_append, List.length_append]
    omega
theorem pow_len {z : Str} {e : Int} (hz : z.length ≤ 1) (h : Sm e) : (powL z e).length ≤ 110 := by
  have a := h.numL
  have c : (tl " ").length = 1 := by decide +kernel
  have c2 : (tl "^").length = 1 := by decide +kernel
  have l := len_tl z
  unfold powL
  split
  · exact Nat.zero_le _
  · split
    · rw [List.length_append]
      omega
    · rw [List.length_append, List.length_append, List.length_append]
      omega
theorem n_len : ("n" : Str).length ≤ 1 := by decide +kernel
theorem d_len : ("d" : Str).length ≤ 1 := by decide +kernel
theorem term_len {t : Term} (h : TSm t) : (termTx t).length ≤ 430 := by
  have a := part_len2 h.c h.d
  have b := pow_len n_len h.a
  have c := pow_len d_len h.b
  unfold termTx
  rw [List.length_append, List.length_append]
  omega
theorem joinL_le (s : List Nat) (m : Nat) : ∀ ls : List (List Nat), (∀ l ∈ ls, l.length ≤ m) → (TL.joinL s ls).length ≤ ls.length * (m + s.length)
  | ls, h => by
    refine Nat.le_trans (joinL_len s ls) ?_
    induction ls with
    | nil => exact Nat.zero_le _
    | cons l r ih =>
      have h1 := h l List.mem_cons_self
      have h2 := ih fun x hx => h x (List.mem_cons_of_mem _ hx)
      rw [List.map_cons, List.sum_cons, List.length_cons, Nat.succ_mul]
      omega
theorem terms_len {ts : List Term} (h : ∀ t ∈ ts, TSm t) (hl : ts.length ≤ 8) : (termsTx ts).length ≤ 3500 := by
  unfold termsTx
  split
  · have : (tl "0").length = 1 := by decide +kernel
    omega
  · have c : (tl " + ").length = 3 := by decide +kernel
    have := joinL_le (tl " + ") 430 (ts.map termTx) (fun l hl => by
      obtain ⟨t, ht, rfl⟩ := List.mem_map.mp hl
      exact term_len (h t ht))
    rw [List.length_map, c] at this
    have : ts.length * (430 + 3) ≤ 8 * 433 := Nat.mul_le_mul_right _ hl
    omega
theorem row_len {r : Row} (h0 : Sm r.1) (h : ∀ t ∈ r.2, TSm t) (hl : r.2.length ≤ 8) : (rowTx r).length ≤ 3700 := by
  have a := terms_len h hl
  have b := h0.numL
  have c : (tl ": ").length = 2 := by decide +kernel
  unfold rowTx
  rw [List.length_append, List.length_append]
  omega
/-- rows that can be written -/
def RSm (rs : List Row) : Prop := rs.length ≤ 8 ∧ ∀ r ∈ rs, Sm r.1 ∧ (∀ t ∈ r.2, TSm t) ∧ r.2.length ≤ 8
theorem sum_le_mul (m : Nat) : ∀ ls : List Str, (∀ z ∈ ls, z.length ≤ m) → (ls.map (·.length)).sum ≤ ls.length * m
  | [], _ => Nat.zero_le _
  | z :: r, h => by
    have h1 := h z List.mem_cons_self
    have h2 := sum_le_mul m r fun x hx => h x (List.mem_cons_of_mem _ hx)
    rw [List.map_cons, List.sum_cons, List.length_cons, Nat.succ_mul]
    omega
theorem join_tx {α : Type} (sep : Str) (f : α → List Nat) (xs : List α) : Txt.join sep (xs.map fun x => S (f x)) = S (TL.joinL (tl sep) (xs.map f)) := by
  have e := SX.join_S (tl sep) (xs.map f)
  have e1 : SX.S (tl sep) = sep := S_tl _
  rw [e1] at e
  have e2 : (xs.map f).map SX.S = xs.map fun x => S (f x) := by
    rw [List.map_map]
    rfl
  rw [e2] at e
  exact e
def spPartText : Sp := fun vs H Q _ => ∃ (v : V) (o : Int × Int), vs = [v] ∧ Rp H v (encP o) ∧ Sm o.1 ∧ Sm o.2 ∧ Q (.str (S (partL o))) H
def spPowText : Sp := fun vs H Q _ => ∃ (z : Str) (e : Int), vs = [.str z, .int e] ∧ z.length ≤ 1 ∧ Sm e ∧ Q (.str (S (powL z e))) H
def spTermText : Sp := fun vs H Q _ => ∃ (u v : V) (t : Term), vs = [u, v] ∧ Rp H u (encP t.1) ∧ Rp H v (encP t.2) ∧ TSm t ∧ Q (.str (S (termTx t))) H
def spTermsText : Sp := fun vs H Q _ => ∃ (l : Addr) (ts : List Term), vs = [.ref l] ∧ TermsAt H l ts ∧ (∀ t ∈ ts, TSm t) ∧ ts.length ≤ 8 ∧ ∀ H', Same H H' → Q (.str (S (termsTx ts))) H'
def spSumsText : Sp := fun vs H Q _ => ∃ (a : Addr) (rs : List Row) (ls : List Addr), vs = [.ref a] ∧ SumsAt H a rs ls ∧ RSm rs ∧ ∀ H', Same H H' → Q (.str (S (sumsTx rs))) H'
/-- growth_text(growth) -/
def growTx (t b f : Int) : List Nat := numL t ++ tl " by " ++ numL b ++ tl ", figures " ++ numL f
def spGrowText : Sp := fun vs H Q _ => (vs = [.non] ∧ Q (.str "none") H) ∨ ∃ (v : V) (t b f : Int), vs = [v] ∧ Rp H v (.tup [.int t, .int b, .int f]) ∧ Sm t ∧ Sm b ∧ Sm f ∧ Q (.str (S (growTx t b f))) H
theorem rows_sm {top deep wide : Int} {rs : List Row} (h : RowsOk top deep wide rs) (h1 : top ≤ 9) (h2 : deep ≤ 9) (h3 : wide < 2 ^ 100) : RSm rs := by
  refine ⟨by have := h.n4; omega, fun r hr => ?_⟩
  have hs := h.since r hr
  obtain ⟨ht, hl, _⟩ := h.terms r hr
  refine ⟨Sm.of (by omega), fun t htm => ?_, by omega⟩
  have k := ht t htm
  have k1 := k.p0; have k2 := k.p1; have k3 := k.f0; have k4 := k.f1; have k5 := k.o1; have k6 := k.u0; have k7 := k.u1
  refine ⟨Sm.of (by omega), Sm.of (by omega), Sm.of ?_, Sm.of (by omega), k1, k3⟩
  omega
/-! ### the signs of such texts are signs -/
def CpOk (l : List Nat) : Prop := ∀ c ∈ l, c < 0x110000
theorem cp_of (z : String) : CpOk (tl (Str.ofString z)) := by
  intro c hc
  rw [PySem.Str.ofString_eq_toList] at hc
  obtain ⟨x, _, rfl⟩ := List.mem_map.mp hc
  have := x.valid
  show x.val.toNat < 0x110000
  rcases this with h | ⟨_, h⟩
  · exact Nat.lt_trans h (by decide)
  · exact h
theorem cp_app {a b : List Nat} (h : CpOk a) (k : CpOk b) : CpOk (a ++ b) := fun c hc => (List.mem_append.mp hc).elim (h c) (k c)
theorem cp_nil : CpOk [] := fun _ h => by cases h
theorem cp_num (i : Int) : CpOk (numL i) := cp_of _
theorem cp_part (o : Int × Int) : CpOk (partL o) := by
  unfold partL
  split
  · exact cp_num _
  · exact cp_app (cp_app (cp_num _) (cp_of _)) (cp_num _)
theorem cp_pow (z : String) (e : Int) : CpOk (powL (Str.ofString z) e) := by
  unfold powL
  split
  · exact cp_nil
  · split
    · exact cp_app (cp_of _) (cp_of _)
    · exact cp_app (cp_app (cp_app (cp_of _) (cp_of _)) (cp_of _)) (cp_num _)
theorem cp_term (t : Term) : CpOk (termTx t) := cp_app (cp_app (cp_part _) (cp_pow _ _)) (cp_pow _ _)
theorem cp_str {l : List Nat} (h : CpOk l) : PyData.strOk (S l) = true := by
  unfold PyData.strOk
  rw [Array.all_eq_true']
  intro c hc
  have hc2 : c ∈ l := by simpa using hc
  simp only [decide_eq_true_eq]
  exact h c hc2
theorem dps_strs {K : PySem.W.Frag} {H : Hp} : ∀ zs : List Str, DpAll K H (zs.map V.str) (zs.map PyData.str)
  | [] => .nil
  | z :: r => .cons (.str z) (dps_strs r)
theorem depth_strs : ∀ zs : List Str, PyData.depthAll (zs.map PyData.str) = 0
  | [] => rfl
  | z :: r => by
    show max 0 (PyData.depthAll (r.map PyData.str)) = 0
    rw [depth_strs r]
    rfl
theorem lay_strs : ∀ zs : List Str, (∀ z ∈ zs, PyData.strOk z = true) → PyData.canLayAll0 (zs.map PyData.str) = true
  | [], _ => rfl
  | z :: r, h => by
    show (PyData.strOk z && PyData.canLayAll0 (r.map PyData.str)) = true
    rw [h z List.mem_cons_self, lay_strs r fun x hx => h x (List.mem_cons_of_mem _ hx)]
    rfl
theorem shaped_strs {zs : List Str} (h : ∀ z ∈ zs, PyData.strOk z = true) : SeqAt.shaped (.list (zs.map PyData.str)) = true := by
  unfold SeqAt.shaped
  have h1 : (PyData.list (zs.map PyData.str)).canLay0 = true := lay_strs zs h
  have h2 : (PyData.list (zs.map PyData.str)).depth ≤ 64 := by
    show PyData.depthAll (zs.map PyData.str) + 1 ≤ 64
    rw [depth_strs]
    decide
  rw [h1, decide_eq_true h2]
  rfl
/-! ### a comprehension over a list of pairs -/
theorem lc_list_map2 {K : PySem.W.Frag} {a : Addr} {xs : List V} {g : TG} {te : TE} {vs : List Nat} {σ : L2.St} {H1 : Hp} {D : Addr} {Qd : Hp → Prop} (ys : List V)
    (hlen : ys.length = xs.length) (hz : xs.length < 100000) (hS : H1 a = some (.lst xs)) (hD : H1 D = none)
    (he : ∀ (i : Nat) (x y : V) (H2 : Hp) (Nx : V → Hp → Prop), xs[i]? = some x → ys[i]? = some y → Same H1 H2 → (∀ H3, Same H2 H3 → Nx y H3) → g x (wipe σ vs) H2 fun σ2 H3 => wipe σ2 vs = wipe σ vs ∧ te σ2 H3 Nx)
    (hd : ∀ H', Same H1 H' → H' D = some (.lst ys) → Qd H') :
    ∃ W : Nat → Nat → Hp → Prop, (∃ m, W 0 m (upd H1 D (.lst []))) ∧ ∀ i m H, W i m H →
      ((Itl K a).stop i H ∧ Qd H) ∨ ((Itl K a).go i H ∧ ∃ Nx : Hp → Prop, (∀ H', Nx H' → ∃ m', m' < m ∧ W (i + 1) m' H') ∧ ∀ x H', (Itl K a).yld i H x H' → g x (wipe σ vs) H' fun σ2 H2 => wipe σ2 vs = wipe σ vs ∧ tYes σ2 H2 fun b H3 =>
        if b = true then te σ2 H3 fun y H4 => ∃ acc, H4 D = some (.lst acc) ∧ acc.length < sizeLine ∧ Nx (upd H4 D (.lst (acc ++ [y]))) else Nx H3) := by
  refine lc_list (xs := xs) (fun i H' => Same H1 H' ∧ H' D = some (.lst (ys.take i))) ⟨same_new hD, upd_same⟩ (fun i H' hi hP => SqL.of (hP.1 _ _ hS)) (fun i x H' hx hP => ?_) (fun H' hP => ?_)
  · obtain ⟨sm, hl⟩ := hP
    have hi : i < ys.length := by
      rw [hlen]
      obtain ⟨h, _⟩ := List.getElem?_eq_some_iff.mp hx
      exact h
    refine he i x ys[i] H' _ hx (List.getElem?_eq_getElem hi) sm fun H3 s3 => ?_
    refine ⟨ys.take i, s3 _ _ hl, ?_, Same.upd_new (sm.trans s3) hD, ?_⟩
    · rw [List.length_take]
      exact szl (by omega)
    · rw [upd_same, List.take_add_one, List.getElem?_eq_getElem hi]
      rfl
  · obtain ⟨sm, hl⟩ := hP
    rw [← hlen, List.take_length] at hl
    exact hd H' sm hl
theorem rpl_terms {H : Hp} {vs : List V} {ts : List Term} (h : RpL H vs (ts.map encT)) {i : Nat} {x : V} (hx : vs[i]? = some x) : ∃ t, ts[i]? = some t ∧ Rp H x (encT t) := by
  obtain ⟨d, hd, hr⟩ := h.get hx
  rw [List.getElem?_map] at hd
  cases ht : ts[i]? with
  | none => rw [ht] at hd; cases hd
  | some t =>
    rw [ht] at hd
    have : encT t = d := Option.some.inj hd
    exact ⟨t, rfl, this ▸ hr⟩
end OG

set_option Elab.async false
set_option linter.all false
set_option maxRecDepth 100000
set_option maxHeartbeats 4000000
namespace OG
open PySem PySem.Spec PyProof.Rows L2
/-! ### repr of data, where no repr is under way -/
def rRepr (K : PySem.W.Frag) : List V → Hp → VK → Prop := fun xs H Q => ∃ (a : Addr) (d : PyData), xs = [.ref a] ∧ Dp K H (.ref a) d ∧ d.showable = true ∧ d.hasDict = false ∧ d.depth ≤ 60 ∧ d.shown.length ≤ sizeLine ∧ Q (.str d.shown) H
theorem call_repr {X : Cx} (guard : X.A.guards = some []) (room : X.A.units + 64 < cLine) : CallR X (.builtin "repr") (rRepr X.K) := by
  intro pins sh st H args vals Qv inv rel ask
  obtain ⟨a, d, rfl, told, can, plain, deep, long, wish⟩ := ask
  obtain ⟨arg, rfl, rarg⟩ := rel.one
  obtain ⟨as, reads⟩ := Dp.reads inv d _ _ told rarg
  cases rarg
  refine repr_of_reads' reads can (fun z => by rw [plain] at z; cases z) guard (by omega) (fun _ _ e => e) (fun hp u tok keep => ?_) long
  exact ⟨.str d.shown, H, inv.kept keep, ⟨u, rfl⟩, wish⟩
/-! ### a def that is called where no repr is under way -/
def RunG (P : Program) (w : World) (K : PySem.W.Frag) (mg : Str → Option Value) (base : Heap) (k : Nat) (f : Addr) (fd : FuncData) (ps : List Str) (sp : Sp) : Prop :=
  ∀ (A : Around) (outer : List Env) (sh : Shared) (H : Hp) (args : Args) (us : List Value) (vs : List V) (Qv : VK) (Ev : XK), A.guards = some [] → Room k A → Env0 P w K mg base A outer sh H → BindsTo sh fd args (ps.zip us) → Vals vs us → sp vs H Qv Ev →
    codeAny (model P w) A (.call (.ref f) args) (CR CX0 outer P w H sh Qv Ev) sh
theorem runG_of {P : Program} {w : World} {K : PySem.W.Frag} {mg : Str → Option Value} {base : Heap} {x qual : Str} {st : Stmt} {f : Addr} {fd : FuncData} {N ps : List Str} {k : Nat} {sp : Sp}
    (F : Fun K x qual st f fd) (S : FnScope N ps (defScope st)) (len : ∀ vs H Qv Ev, sp vs H Qv Ev → vs.length = ps.length)
    (body : ∀ (cdv : Value) (A : Around) (outer : List Env) (sh : Shared) (H : Hp) (vs : List V) (Qv : VK) (Ev : XK), A.guards = some [] → Room k (A.deeper (envOfC qual (defScope st) sh.heap.objs.size f cdv)) → sp vs H Qv Ev →
      ∃ t, PSs (cxOf CX0 P w K mg base N qual (defScope st) f cdv A outer sh H Ev).nox (defBody st) t ∧ t { nx := fun _ H' => Qv .non H', rt := Qv } (start N vs) H) : RunG P w K mg base (k + 1) f fd ps sp := by
  intro A outer sh H args us vs Qv Ev guard room env binds rel ask
  obtain ⟨oc, od, kV, doc, pm, an, cdv, ct, osl, rfl, look, code⟩ := F.ex
  have many := len _ _ _ _ ask
  have written : K.In sh.heap := env.mod.kin.keeps fun b o e => (env.bs b o e).1
  have noLimit : sh.heap.NoLimit := env.mod.nolimit.keeps fun b o e => (env.bs b o e).1
  refine codeAny_call_function room.depth (written _ _ look) rfl S.co S.gen rfl (PySem.W.codeRec_of written code) (binds _ _ _ _ ?_)
  refine wpAny_newFunctionEnv_cells S.kind (fun pr hpr => ?_) fun env1 same sh1 fresh => ?_
  · rcases S.par pr.1 (List.of_mem_zip (a := pr.1) (b := pr.2) hpr).1 with kind | kind
    · exact .inl kind
    · exact .inr ⟨kind, PySem.W.cellsFrom_some _ _ _ (.inl kind)⟩
  subst same
  refine ⟨noLimit.keeps fresh.toInCall.keep, codeAny_func ?_⟩
  obtain ⟨t, told, holds⟩ := body cdv A outer sh H vs Qv Ev guard (room.deeper _) ask
  refine wpAny_mono (told.nox.run [] sh1 (start N vs) H _ (inv_start S room.hd env many rel fresh) holds) (fun flow sh2 done => ?_) fun _ _ bad => bad
  cases flow with
  | next =>
    obtain ⟨st2, H2, inv2, wish⟩ := done
    exact ⟨V.non, H2, inv2.os, inv2.bare, inv2.base, inv2.hok, rfl, wish⟩
  | ret u =>
    obtain ⟨v, st2, H2, inv2, rv, wish⟩ := done
    exact ⟨v, H2, inv2.os, inv2.bare, inv2.base, inv2.hok, rv, wish⟩
  | brk =>
    obtain ⟨_, _, _, bad⟩ := done
    exact bad.elim
  | cont =>
    obtain ⟨_, _, _, bad⟩ := done
    exact bad.elim
/-! ### the law is called where no repr is under way -/
abbrev scriptO (vs : List Value) : Obj := { cls := .type "list", data := .seq vs.toArray }
abbrev LawEnds (sh : Shared) : Result → Shared → Prop := fun r sh' => r = .ok (.ret (.bool true)) ∧ OldK sh.heap sh'.heap ∧ sh'.os = sh.os ∧ AllBare sh'.gens
section
variable {P : Program} {w : World} {K : PySem.W.Frag} {mg mb : Str → Option Value} {k : Nat} {fa a : Addr} {fd : FuncData} {x : Str} {sp : Sp} {sh : Shared} {vs : List Value} {ns : List Int}
/-- from a heap in which at most the script is tracked -/
theorem law_from (H : Hp) (only : Only H) (lone : ∀ b u, H b = some u → b = a) (apart : ∀ u, H a = some u → K.lookup a = none) (hok : HOk P w H sh.heap)
    (written : K.In sh.heap) (globals : sh.heap.Ns mainGlobals mg) (blt : sh.heap.Ns builtinsNs mb) (names : ∀ y : Str, y ≠ "__name__" → mb y = bootBuiltins y) (noLimit : sh.heap.NoLimit) (noGens : sh.gens = #[])
    (scr : sh.heap.get? a = some (scriptO vs)) (room : Room k callerA) (runs : ∀ base : Heap, K.In base → base.Ns mainGlobals mg → RunG P w K mg base k fa fd [x] sp)
    (binds : ∀ (s : Shared) (u : Value), BindsTo s fd ⟨[u], []⟩ [(x, u)]) (ask : sp [.ref a] H (fun v _ => v = .bl true) fun _ _ _ => False) :
    codeAny (model P w) callerA (.call (.ref fa) ⟨[.ref a], []⟩) (LawEnds sh) sh := by
  have untracked : ∀ {b : Addr}, b ≠ a → H b = none := fun {b} ne => by
    cases e : H b with
    | none => rfl
    | some u => exact absurd (lone b u e) ne
  have seen : ∀ {b : Addr} {m : Str → Option Value}, sh.heap.Ns b m → (hidT sh.heap H).Ns b m := fun {b m} ⟨o, es, ep, e, dt, r⟩ =>
    ⟨o, es, ep, hidT_get e (untracked fun z => by
      subst z
      rw [scr] at e
      cases e
      cases dt), dt, r⟩
  have writtenB : K.In (hidT sh.heap H) := fun b o e => hidT_get (written b o e) (by
    by_cases z : b = a
    · subst z
      cases t : H b with
      | none => rfl
      | some u =>
        rw [apart u t] at e
        cases e
    · exact untracked z)
  obtain ⟨mc, lim1, lim2⟩ := noLimit
  have env : Env0 P w K mg (hidT sh.heap H) callerA [] sh H :=
    ⟨rfl, ⟨writtenB, seen globals, ⟨mb, seen blt, names⟩, ⟨mc, seen lim1, lim2⟩⟩, fun b o e => of_hidT e, Nat.le_of_eq (hidT_size _ _), trivial, fun b hb => absurd (show b ∈ ([] : List Addr) from hb) (by simp), hok, .of_eq noGens⟩
  refine codeAny_mono (runs _ writtenB (seen globals) callerA [] sh H ⟨[.ref a], []⟩ [.ref a] [.ref a] _ _ rfl room env (binds sh (.ref a)) (.cons rfl .nil) ask) fun r sh2 ended => ?_
  match r, ended with
  | .ok (.ret u), ended =>
    obtain ⟨v, H2, os, bare, un, hok2, rv, isTrue⟩ := ended
    have isTrue' : v = .bl true := isTrue
    subst isTrue'
    cases rv
    refine ⟨rfl, OldK.of_keep fun b o e => ?_, os, bare⟩
    rcases only b with z | ⟨ob, xs, z⟩
    · exact un.keep b o e z (fun m => absurd (show b ∈ ([] : List Addr) from m) (by simp)) (by simp)
    · have before := (hok b _ z).1
      have behind := (hok2 b _ (un.frzs b ob _ z)).1
      rw [e] at before
      cases before
      exact behind
  | .ok .next, ended => exact ended.elim
  | .ok .brk, ended => exact ended.elim
  | .ok .cont, ended => exact ended.elim
  | .error e, ended => exact ended.elim
theorem law_callG (written : K.In sh.heap) (globals : sh.heap.Ns mainGlobals mg) (blt : sh.heap.Ns builtinsNs mb) (names : ∀ y : Str, y ≠ "__name__" → mb y = bootBuiltins y) (noLimit : sh.heap.NoLimit) (noGens : sh.gens = #[])
    (scr : sh.heap.get? a = some (scriptO vs)) (whole : IntsAre vs ns) (short : ns.length ≤ sizeLine) (room : Room k callerA) (runs : ∀ base : Heap, K.In base → base.Ns mainGlobals mg → RunG P w K mg base k fa fd [x] sp)
    (binds : ∀ (s : Shared) (u : Value), BindsTo s fd ⟨[u], []⟩ [(x, u)]) (ask : ∀ H : Hp, Only H → SqL K H a (ns.map V.int) → sp [.ref a] H (fun v _ => v = .bl true) fun _ _ _ => False) :
    codeAny (model P w) callerA (.call (.ref fa) ⟨[.ref a], []⟩) (LawEnds sh) sh := by
  have rel := vals_ints whole
  have long := whole.length
  cases inK : K.lookup a with
  | some o =>
    have same := written a o inK
    rw [scr] at same
    cases same
    have o1 : Only (fun _ => none) := fun _ => .inl rfl
    refine law_from (fun _ => none) o1 (fun b u z => nomatch (show (none : Option HO) = some u from z)) (fun u z => nomatch (show (none : Option HO) = some u from z)) (fun b u z => nomatch (show (none : Option HO) = some u from z)) written globals blt names noLimit noGens scr room runs binds (ask _ o1 (.inr ⟨_, vs.toArray, _, inK, rfl, rfl, rfl, ?_, ?_⟩))
    · rw [List.size_toArray, long]
      exact short
    · simpa using rel
  | none =>
    let H0 : Hp := fun b => if b = a then some (.frz (scriptO vs) (.lst (ns.map V.int))) else none
    have at0 : H0 a = some (.frz (scriptO vs) (.lst (ns.map V.int))) := if_pos rfl
    have out0 : ∀ b u, H0 b = some u → b = a ∧ u = .frz (scriptO vs) (.lst (ns.map V.int)) := fun b u e => by
      by_cases z : b = a
      · subst z
        rw [at0] at e
        exact ⟨rfl, (Option.some.inj e).symm⟩
      · have e2 : H0 b = none := if_neg z
        rw [e2] at e
        cases e
    have o1 : Only H0 := fun b => by
      cases e : H0 b with
      | none => exact .inl rfl
      | some u => exact .inr ⟨_, _, by rw [(out0 b u e).2]⟩
    refine law_from H0 o1 (fun b u e => (out0 b u e).1) (fun _ _ => inK) (fun b u e => ?_) written globals blt names noLimit noGens scr room runs binds (ask H0 o1 (.inl (.inr ⟨_, at0⟩)))
    obtain ⟨rfl, rfl⟩ := out0 b u e
    exact ⟨scr, by rw [List.length_map]; exact short, vs, _, rel, scr⟩
end
theorem walk_ofG {l : PySem.W.OpenLaw} {n k : Nat} {q : Program} {loose : List Str} {XP : (Str → Option Value) → Heap → Prop} {YP : World → Heap → Prop} {d : DefRec} {K : Params → PySem.W.Frag} {sp : World → Sp} {x : Str}
    (most : l.most = some n) (fits : n ≤ sizeLine) (plain : d.params.defaults = []) (room : Room k callerA) (known : ∀ (w : World) (h : Heap), YP w h → (K w.params).In h)
    (F : ∀ (w : World) (mg : Str → Option Value) (fa : Addr) (h : Heap), (K w.params).In h → h.Ns mainGlobals mg → mg d.name = some (.ref fa) →
      ∃ fd : FuncData, (∀ (s : Shared) (u : Value), BindsTo s fd ⟨[u], []⟩ [(x, u)]) ∧ ∀ base : Heap, (K w.params).In base → base.Ns mainGlobals mg → RunG l.prog w (K w.params) mg base k fa fd [x] (sp w))
    (ask : ∀ (w : World) (H : Hp) (a : Addr) (ns : List Int), ns.length ≤ n → Only H → SqL (K w.params) H a (ns.map V.int) → sp w [.ref a] H (fun v _ => v = .bl true) fun _ _ _ => False) :
    PySem.W.WalkO q loose XP YP l.row.toRowW d [] (fun f vs => PySem.call f vs) := by
  refine Att.attach_call most plain fun w _ sh mg _ fa _ _ _ _ a vs ns ground holds _ _ _ isLaw scr whole len noGens => ?_
  have written := known w _ holds
  obtain ⟨fd, binds, runs⟩ := F w mg fa _ written ground.T.g isLaw
  exact law_callG written ground.T.g ground.T.b ground.T.builtins ground.T.nolimit noGens scr whole (Nat.le_trans len fits) room runs binds fun H only sq => ask w H a ns len only sq
end OG

set_option Elab.async false
set_option linter.all false
set_option maxRecDepth 100000
set_option maxHeartbeats 4000000
namespace OG
open PySem PySem.Spec PyProof.Rows L2
/-! ### two values that stand for one datum, tuples of the module's top among them -/
theorem sqt_keeps {K : PySem.W.Frag} {H H' : Hp} {a : Addr} {xs : List V} (h : SqT K H a xs) (s : Same H H') : SqT K H' a xs := by
  rcases h with (h | ⟨o, h⟩) | h
  · exact .inl (.inl (s _ _ h))
  · exact .inl (.inr ⟨o, s _ _ h⟩)
  · exact .inr h
theorem ty_sqt {K : PySem.W.Frag} {H : Hp} {a : Addr} {xs : List V} (h : SqT K H a xs) : TyX K H (.ref a) (.type "tuple") := by
  rcases h with (h | ⟨o, h⟩) | ⟨o, its, n, h1, h2, _⟩
  · exact .base (.tup h)
  · exact .fTuple h
  · exact .kTuple h1 h2
def Eq3 (K : PySem.W.Frag) (H : Hp) : Nat → V → V → Prop
  | 0, v, w => v = w ∧ flatV v = true
  | n + 1, v, w => (v = w ∧ flatV v = true) ∨
    (∃ (a b : Addr) (vs ws : List V), v = .ref a ∧ w = .ref b ∧ ((SqT K H a vs ∧ SqT K H b ws) ∨ (H a = some (.lst vs) ∧ H b = some (.lst ws))) ∧ vs.length = ws.length ∧ vs.length < 100000 ∧
      ∀ (i : Nat) x y, vs[i]? = some x → ws[i]? = some y → Eq3 K H n x y)
theorem Eq3.same {K : PySem.W.Frag} {H H' : Hp} (s : Same H H') : ∀ {n : Nat} {v w : V}, Eq3 K H n v w → Eq3 K H' n v w
  | 0, _, _, h => h
  | n + 1, v, w, h => by
    rcases h with h | ⟨a, b, vs, ws, e1, e2, h, hl, hz, q⟩
    · exact .inl h
    · refine .inr ⟨a, b, vs, ws, e1, e2, ?_, hl, hz, fun i x y hx hy => Eq3.same s (q i x y hx hy)⟩
      rcases h with ⟨k1, k2⟩ | ⟨k1, k2⟩
      · exact .inl ⟨sqt_keeps k1 s, sqt_keeps k2 s⟩
      · exact .inr ⟨s _ _ k1, s _ _ k2⟩
theorem Eq3.flat {K : PySem.W.Frag} {H : Hp} {v : V} (h : flatV v = true) : ∀ n, Eq3 K H n v v
  | 0 => ⟨rfl, h⟩
  | n + 1 => .inl ⟨rfl, h⟩
def spSame3 (K : PySem.W.Frag) (n : Nat) : Sp := fun vs H Q _ => ∃ v w : V, vs = [v, w] ∧ Eq3 K H n v w ∧ ∀ H', Same H H' → Q (.bl true) H'
def prevS3 (K : PySem.W.Frag) : Nat → Sp
  | 0 => fun _ _ _ _ => False
  | n + 1 => spSame3 K n
/-- two tuples of like flat values -/
theorem eq3_tups {K : PySem.W.Frag} {H : Hp} {p q : Addr} {vs : List V} (n : Nat) (hp : SqT K H p vs) (hq : SqT K H q vs) (hf : vs.all flatV = true) (hl : vs.length < 100000) : Eq3 K H (n + 1) (.ref p) (.ref q) :=
  .inr ⟨p, q, vs, vs, rfl, rfl, .inl ⟨hp, hq⟩, rfl, hl, fun k x y hx hy => by
    have e : x = y := Option.some.inj (hx.symm.trans hy)
    subst e
    exact Eq3.flat (List.all_eq_true.mp hf x (List.mem_of_getElem? hx)) n⟩
/-- two lists of one thing each -/
theorem eq3_one {K : PySem.W.Frag} {H : Hp} {p q : Addr} {x y : V} (n : Nat) (hp : H p = some (.lst [x])) (hq : H q = some (.lst [y])) (h : Eq3 K H n x y) : Eq3 K H (n + 1) (.ref p) (.ref q) :=
  .inr ⟨p, q, [x], [y], rfl, rfl, .inr ⟨hp, hq⟩, rfl, by show 1 < 100000; decide, fun k u v hu hv => by
    match k, hu, hv with
    | 0, hu, hv =>
      have e1 : x = u := Option.some.inj hu
      have e2 : y = v := Option.some.inj hv
      subst e1
      subst e2
      exact h
    | k + 1, hu, _ => simp at hu⟩
end OG

set_option Elab.async false
set_option linter.all false
set_option maxRecDepth 100000
set_option maxHeartbeats 4000000
namespace OG
open PySem PySem.Spec PyProof.Rows L2
/-! ### lowest terms -/
theorem gcd_mod (x y : Int) : Int.gcd y (x % y) = Int.gcd x y := by
  have e : x % y = x - y * (x / y) := Int.emod_def x y
  refine Nat.dvd_antisymm ?_ ?_
  · refine Int.natCast_dvd_natCast.mp (Int.dvd_coe_gcd ?_ (Int.gcd_dvd_left _ _))
    have h1 := Int.gcd_dvd_left y (x % y)
    have h2 := Int.gcd_dvd_right y (x % y)
    have h3 : x = x % y + y * (x / y) := by omega
    rw [h3]
    exact Int.dvd_add (by rw [← h3]; exact h2) (Int.dvd_mul_of_dvd_left (by rw [← h3]; exact h1))
  · refine Int.natCast_dvd_natCast.mp (Int.dvd_coe_gcd (Int.gcd_dvd_right _ _) ?_)
    rw [e]
    exact Int.dvd_sub (Int.gcd_dvd_left _ _) (Int.dvd_mul_of_dvd_left (Int.gcd_dvd_right _ _))
theorem low_facts {o u : Int} (h : 1 ≤ u) : let g : Int := (Int.gcd o u : Nat); 0 < g ∧ o = g * (lowOf o u).1 ∧ u = g * (lowOf o u).2 ∧ Int.gcd (lowOf o u).1 (lowOf o u).2 = 1 ∧ 1 ≤ (lowOf o u).2 := by
  intro g
  have hp : 0 < Int.gcd o u := Int.gcd_pos_of_ne_zero_right _ (by omega)
  have h1 : o = g * (lowOf o u).1 := (Int.mul_ediv_cancel' (Int.gcd_dvd_left o u)).symm
  have h2 : u = g * (lowOf o u).2 := (Int.mul_ediv_cancel' (Int.gcd_dvd_right o u)).symm
  have hg : 0 < g := Int.ofNat_lt.mpr hp
  refine ⟨hg, h1, h2, Int.gcd_ediv_gcd_ediv_gcd hp, ?_⟩
  have : 0 < g * (lowOf o u).2 := by rw [← h2]; omega
  exact Int.pos_of_mul_pos_right this hg
theorem low_cross {o u : Int} (h : 1 ≤ u) : (lowOf o u).1 * u = o * (lowOf o u).2 := by
  obtain ⟨_, h1, h2, _⟩ := low_facts (o := o) h
  grind
theorem cop_dvd {a b c : Int} (h : Int.gcd a b = 1) (k : b ∣ a * c) : b ∣ c := by
  have h2 : Nat.Coprime b.natAbs a.natAbs := by
    show Nat.gcd b.natAbs a.natAbs = 1
    rw [Nat.gcd_comm]
    exact h
  have k2 : b.natAbs ∣ a.natAbs * c.natAbs := by
    rw [← Int.natAbs_mul]
    exact Int.natAbs_dvd_natAbs.mpr k
  exact Int.natAbs_dvd_natAbs.mp (h2.dvd_of_dvd_mul_left k2)
/-- two parts in lowest terms that are alike are the same -/
theorem low_uniq {a b c d : Int} (h1 : Int.gcd a b = 1) (h2 : Int.gcd c d = 1) (hb : 1 ≤ b) (hd : 1 ≤ d) (e : a * d = c * b) : a = c ∧ b = d := by
  have k1 : b ∣ d := cop_dvd h1 ⟨c, by rw [e, Int.mul_comm]⟩
  have k2 : d ∣ b := cop_dvd h2 ⟨a, by rw [← e, Int.mul_comm]⟩
  have e2 : b = d := Int.dvd_antisymm (by omega) (by omega) k1 k2
  subst e2
  exact ⟨Int.eq_of_mul_eq_mul_right (by omega) e, rfl⟩
theorem low_eq {o u o' u' : Int} (h : 1 ≤ u) (h' : 1 ≤ u') (e : o * u' = o' * u) : lowOf o u = lowOf o' u' := by
  obtain ⟨g1, a1, a2, a3, a4⟩ := low_facts (o := o) h
  obtain ⟨g2, b1, b2, b3, b4⟩ := low_facts (o := o') h'
  have c1 := low_cross (o := o) h
  have c2 := low_cross (o := o') h'
  have e2 : (lowOf o u).1 * (lowOf o' u').2 = (lowOf o' u').1 * (lowOf o u).2 := by
    have hz : u * u' ≠ 0 := Int.mul_ne_zero (by omega) (by omega)
    refine Int.eq_of_mul_eq_mul_right hz ?_
    grind
  obtain ⟨x1, x2⟩ := low_uniq a3 b3 a4 b4 e2
  exact Prod.ext x1 x2
theorem low_step {o1 u1 O U m u : Int} (hU : 1 ≤ U) (hu : 1 ≤ u) : lowOf ((lowOf O U).1 * (lowOf m u).2 + (lowOf m u).1 * (lowOf O U).2) ((lowOf O U).2 * (lowOf m u).2) = lowOf (O * u + m * U) (U * u) := by
  obtain ⟨_, _, _, _, a4⟩ := low_facts (o := O) hU
  obtain ⟨_, _, _, _, b4⟩ := low_facts (o := m) hu
  have c1 := low_cross (o := O) hU
  have c2 := low_cross (o := m) hu
  have p1 : 0 < (lowOf O U).2 * (lowOf m u).2 := Int.mul_pos (by omega) (by omega)
  have p2 : 0 < U * u := Int.mul_pos (by omega) (by omega)
  refine low_eq (by omega) (by omega) ?_
  grind
theorem low_le {o u : Int} (h : 1 ≤ u) : (lowOf o u).2 ≤ u ∧ (lowOf o u).1.natAbs ≤ o.natAbs := by
  obtain ⟨g1, a1, a2, a3, a4⟩ := low_facts (o := o) h
  have hg : 1 ≤ ((Int.gcd o u : Nat) : Int) := g1
  constructor
  · have : 1 * (lowOf o u).2 ≤ ((Int.gcd o u : Nat) : Int) * (lowOf o u).2 := Int.mul_le_mul_of_nonneg_right hg (by omega)
    omega
  · have e : o.natAbs = (Int.gcd o u) * (lowOf o u).1.natAbs := by
      have := congrArg Int.natAbs a1
      rw [Int.natAbs_mul, Int.natAbs_natCast] at this
      exact this
    have : 1 * (lowOf o u).1.natAbs ≤ (Int.gcd o u) * (lowOf o u).1.natAbs := Nat.mul_le_mul_right _ (by omega)
    omega
theorem low_01 : lowOf 0 1 = (0, 1) := by decide +kernel
/-! ### which row a size is in -/
def rowIx (rs : List Row) (n : Int) : Nat := (rs.takeWhile fun r => decide (r.1 ≤ n)).length
theorem rowIx_iff {n : Int} : ∀ {rs : List Row}, (rs.map (·.1)).Pairwise (· < ·) → ∀ {j : Nat} {r : Row}, rs[j]? = some r → (r.1 ≤ n ↔ j < rowIx rs n)
  | [], _, j, r, h => by simp at h
  | x :: xs, hp, j, r, h => by
    have hp2 := List.pairwise_cons.mp hp
    unfold rowIx
    by_cases hx : x.1 ≤ n
    · rw [List.takeWhile_cons_of_pos (by simpa using hx), List.length_cons]
      cases j with
      | zero =>
        have e := Option.some.inj h
        subst e
        exact ⟨fun _ => Nat.succ_pos _, fun _ => hx⟩
      | succ j =>
        have ih := rowIx_iff (n := n) (rs := xs) hp2.2 (j := j) (r := r) h
        rw [ih]
        unfold rowIx
        omega
    · rw [List.takeWhile_cons_of_neg (by simpa using hx), List.length_nil]
      refine ⟨fun hr => ?_, fun z => absurd z (Nat.not_lt_zero _)⟩
      cases j with
      | zero =>
        have e := Option.some.inj h
        subst e
        exact absurd hr hx
      | succ j =>
        have hlt : x.1 < r.1 := hp2.1 r.1 (List.mem_map.mpr ⟨r, List.mem_of_getElem? h, rfl⟩)
        omega
theorem rowIx_le (rs : List Row) (n : Int) : rowIx rs n ≤ rs.length := (List.takeWhile_sublist _).length_le
/-- rows that sums may have -/
structure ROk (rs : List Row) : Prop where
  first : (rs.head?.map (·.1)) = some 0
  rises : (rs.map (·.1)).Pairwise (· < ·)
  short : rs.length ≤ 8
  terms : ∀ r ∈ rs, r.2.length ≤ 8 ∧ ∀ t ∈ r.2, 0 ≤ t.1.1 ∧ t.1.1 ≤ 9 ∧ 0 ≤ t.1.2 ∧ t.1.2 ≤ 9 ∧ t.2.1.natAbs < 2 ^ 101 ∧ 1 ≤ t.2.2 ∧ t.2.2 ≤ 2
theorem ROk.pos {rs : List Row} (h : ROk rs) {n : Int} (hn : 0 ≤ n) : 0 < rowIx rs n := by
  cases rs with
  | nil => have := h.first; cases this
  | cons r rest =>
    have e : r.1 = 0 := Option.some.inj h.first
    exact (rowIx_iff h.rises (j := 0) (r := r) rfl).mp (by omega)
def rowTs (rs : List Row) (n : Int) : List Term := ((rs[rowIx rs n - 1]?).map (·.2)).getD []
theorem rowTs_of {rs : List Row} {n : Int} {r : Row} (h : rs[rowIx rs n - 1]? = some r) : rowTs rs n = r.2 := by
  unfold rowTs
  rw [h]
  rfl
/-! ### what terms come to -/
abbrev figs (n : Int) : Nat := Builtin.Int.intBits n
def moreOf (n : Int) (t : Term) : Int := t.2.1 * n ^ t.1.1.toNat * (figs n : Int) ^ t.1.2.toNat
def addT (n : Int) (acc : Int × Int) (t : Term) : Int × Int := (acc.1 * t.2.2 + moreOf n t * acc.2, acc.2 * t.2.2)
def sumUp (n : Int) (ts : List Term) : Int × Int := ts.foldl (addT n) (0, 1)
def worthOf (rs : List Row) (n : Int) : Int × Int := lowOf (sumUp n (rowTs rs n)).1 (sumUp n (rowTs rs n)).2
theorem figs_le {n : Int} (h : n.natAbs < 2 ^ 100) : figs n ≤ 101 := by
  show Builtin.Int.intBits n ≤ 101
  unfold Builtin.Int.intBits
  split
  · omega
  · have h0 : 0 < 100 := by decide
    have := PySem.Flt.log2_lt_of h0 h
    omega
theorem pow_abs (b : Int) (k : Nat) {m : Nat} (h : b.natAbs < 2 ^ m) : (b ^ k).natAbs < 2 ^ (m * k + 1) := by
  rw [Int.natAbs_pow, Nat.pow_succ]
  have h1 : b.natAbs ^ k ≤ (2 ^ m) ^ k := Nat.pow_le_pow_left (Nat.le_of_lt h) k
  rw [← Nat.pow_mul] at h1
  have h2 : 0 < 2 ^ (m * k) := Nat.pow_pos (by decide)
  omega
def PartAt (K : PySem.W.Frag) (H : Hp) (v : V) (o : Int × Int) : Prop := ∃ a, v = .ref a ∧ SqT K H a [.int o.1, .int o.2]
theorem PartAt.of_rp {K : PySem.W.Frag} {H : Hp} {v : V} {o : Int × Int} (h : Rp H v (encP o)) : PartAt K H v o := by
  obtain ⟨a, v1, v2, rfl, ha, rfl, rfl⟩ := rp_t2 h
  exact ⟨a, rfl, SqT.of ha⟩
theorem PartAt.keeps {K : PySem.W.Frag} {H H' : Hp} {v : V} {o : Int × Int} (h : PartAt K H v o) (s : Same H H') : PartAt K H' v o := by
  obtain ⟨a, e, h⟩ := h
  exact ⟨a, e, sqt_keeps h s⟩
theorem ip_mulW {X : Cx} : PIp X .Mult (ipC CMulW fun i j => i * j) := by
  intro pins sh st H x y v u Qv inv rx ry ask
  obtain ⟨i, j, rfl, rfl, wide, wish⟩ := ask
  obtain ⟨t, rfl⟩ := rx
  obtain ⟨t', rfl⟩ := ry
  exact imul_int ⟨.int _, H, inv.tok _, ⟨_, rfl⟩, wish⟩ wide.ok
/-! ### promises -/
def spPowW : Sp := fun vs H Q _ => ∃ (b : Int) (e : Nat), vs = [.int b, .int e] ∧ b.natAbs < 2 ^ 101 ∧ e ≤ 100 ∧ Q (.int (b ^ e)) H
def spGreatest : Sp := fun vs H Q _ => ∃ a b : Int, vs = [.int a, .int b] ∧ 0 ≤ b ∧ Q (.int (Int.gcd a b : Nat)) H
def spPartOf : Sp := spLowest
def spPartSum (K : PySem.W.Frag) : Sp := fun vs H Q _ => ∃ (u v : V) (o p : Int × Int), vs = [u, v] ∧ PartAt K H u o ∧ PartAt K H v p ∧ 1 ≤ o.2 ∧ o.2 ≤ 1000000 ∧ 1 ≤ p.2 ∧ p.2 ≤ 1000000 ∧ ∀ w H', Same H H' → Rp H' w (encP (lowOf (o.1 * p.2 + p.1 * o.2) (o.2 * p.2))) → Q w H'
def spRowAt : Sp := fun vs H Q _ => ∃ (S : Addr) (rs : List Row) (ls : List Addr) (n : Int), vs = [.ref S, .int n] ∧ SumsAt H S rs ls ∧ ROk rs ∧ 0 ≤ n ∧ Q (.int ((rowIx rs n - 1 : Nat) : Int)) H
def spWorth (K : PySem.W.Frag) : Sp := fun vs H Q _ => ∃ (S : Addr) (rs : List Row) (ls : List Addr) (n : Int), vs = [.ref S, .int n] ∧ SumsAt H S rs ls ∧ ROk rs ∧ 0 ≤ n ∧ n.natAbs < 2 ^ 100 ∧ ∀ v H', Same H H' → PartAt K H' v (worthOf rs n) → Q v H'
def spLawAt : Sp := fun vs H Q _ => ∃ (S : Addr) (rs : List Row) (ls : List Addr) (n : Int), vs = [.ref S, .int n] ∧ SumsAt H S rs ls ∧ ROk rs ∧ 0 ≤ n ∧ n.natAbs < 2 ^ 100 ∧ ∀ v H', Same H H' → Rp H' v (encP (worthOf rs n)) → Q v H'
theorem sum_under (n : Int) : ∀ (ts : List Term) (acc : Int × Int), (∀ t ∈ ts, 1 ≤ t.2.2 ∧ t.2.2 ≤ 2) → 1 ≤ acc.2 → 1 ≤ (ts.foldl (addT n) acc).2 ∧ (ts.foldl (addT n) acc).2 ≤ acc.2 * 2 ^ ts.length
  | [], acc, _, h => ⟨h, by show acc.2 ≤ acc.2 * 2 ^ 0; omega⟩
  | t :: r, acc, ht, h => by
    have h1 := ht t List.mem_cons_self
    have hp : 0 < acc.2 * t.2.2 := Int.mul_pos (by omega) (by omega)
    obtain ⟨i1, i2⟩ := sum_under n r (addT n acc t) (fun x hx => ht x (List.mem_cons_of_mem _ hx)) (by show 1 ≤ acc.2 * t.2.2; omega)
    refine ⟨i1, Int.le_trans i2 ?_⟩
    show acc.2 * t.2.2 * 2 ^ r.length ≤ acc.2 * 2 ^ (r.length + 1)
    rw [Int.pow_succ, Int.mul_assoc]
    refine Int.mul_le_mul_of_nonneg_left ?_ (by omega)
    rw [Int.mul_comm]
    exact Int.mul_le_mul_of_nonneg_left h1.2 (Int.le_of_lt (Int.pow_pos (by decide)))
end OG

set_option Elab.async false
set_option linter.all false
set_option maxRecDepth 100000
set_option maxHeartbeats 4000000
namespace OG
open PySem PySem.Spec PyProof.Rows L2
/-! ### sums as data, for repr -/
def pyT (t : Term) : PyData := .tuple [.tuple [.int t.1.1, .int t.1.2], .tuple [.int t.2.1, .int t.2.2]]
def pyR (r : Row) : PyData := .tuple [.int r.1, .list (r.2.map pyT)]
def pyS (rs : List Row) : PyData := .list (rs.map pyR)
theorem dp_terms {K : PySem.W.Frag} {H : Hp} : ∀ (ts : List Term) (us : List V), RpL H us (ts.map encT) → DpAll K H us (ts.map pyT)
  | [], _, h => by rw [show _ = [] from h]; exact .nil
  | t :: r, _, h => by
    obtain ⟨v, vs, rfl, hv, ht⟩ := h
    exact .cons (rp_dp (encT t) v hv) (dp_terms r vs ht)
theorem dp_rows {K : PySem.W.Frag} {H : Hp} {us : List V} {rs : List Row} {ls : List Addr} (h : RowsAt H us rs ls) : DpAll K H us (rs.map pyR) := by
  induction h with
  | nil => exact .nil
  | cons h t ih =>
    obtain ⟨a, rfl, ha, ws, hl, hW⟩ := h
    exact .cons (.tup (SqT.of ha) (.cons (.int _) (.cons (.lst (SqL.of hl) (dp_terms _ _ hW)) .nil))) ih
theorem dp_sums {K : PySem.W.Frag} {H : Hp} {S : Addr} {rs : List Row} {ls : List Addr} (h : SumsAt H S rs ls) : Dp K H (.ref S) (pyS rs) := by
  obtain ⟨us, h1, h2⟩ := h
  exact .lst (SqL.of h1) (dp_rows h2)
theorem show_int {i : Int} (h : Sm i) : (PyData.int i).showable = true ∧ (PyData.int i).leavesShort 110 = true := by
  refine ⟨decide_eq_true h.log, decide_eq_true ?_⟩
  have := h.len
  exact Nat.le_trans this (by decide)
theorem py_terms : ∀ (ts : List Term), (∀ t ∈ ts, TSm t) → PyData.showableAll (ts.map pyT) = true ∧ PyData.hasDictAll (ts.map pyT) = false ∧ PyData.depthAll (ts.map pyT) ≤ 2 ∧ PyData.leavesShortAll 110 (ts.map pyT) = true ∧ PyData.bulkAll (ts.map pyT) ≤ 7 * ts.length
  | [], _ => ⟨rfl, rfl, Nat.zero_le _, rfl, Nat.le_refl _⟩
  | t :: r, h => by
    obtain ⟨a1, a2, a3, a4, a5⟩ := py_terms r fun x hx => h x (List.mem_cons_of_mem _ hx)
    have ht := h t List.mem_cons_self
    obtain ⟨b1, b2⟩ := show_int ht.a
    obtain ⟨c1, c2⟩ := show_int ht.b
    obtain ⟨d1, d2⟩ := show_int ht.c
    obtain ⟨e1, e2⟩ := show_int ht.d
    refine ⟨?_, ?_, ?_, ?_, ?_⟩
    · show (((PyData.int t.1.1).showable && ((PyData.int t.1.2).showable && true)) && (((PyData.int t.2.1).showable && ((PyData.int t.2.2).showable && true)) && true) && PyData.showableAll (r.map pyT)) = true
      rw [b1, c1, d1, e1, a1]
      rfl
    · show (false || PyData.hasDictAll (r.map pyT)) = false
      rw [a2]
      rfl
    · show max 2 (PyData.depthAll (r.map pyT)) ≤ 2
      omega
    · show (((PyData.int t.1.1).leavesShort 110 && ((PyData.int t.1.2).leavesShort 110 && true)) && (((PyData.int t.2.1).leavesShort 110 && ((PyData.int t.2.2).leavesShort 110 && true)) && true) && PyData.leavesShortAll 110 (r.map pyT)) = true
      rw [b2, c2, d2, e2, a4]
      rfl
    · show 6 + 1 + PyData.bulkAll (r.map pyT) ≤ 7 * (r.length + 1)
      omega
theorem py_rows : ∀ (rs : List Row), (∀ r ∈ rs, Sm r.1 ∧ (∀ t ∈ r.2, TSm t) ∧ r.2.length ≤ 8) → PyData.showableAll (rs.map pyR) = true ∧ PyData.hasDictAll (rs.map pyR) = false ∧ PyData.depthAll (rs.map pyR) ≤ 4 ∧ PyData.leavesShortAll 110 (rs.map pyR) = true ∧ PyData.bulkAll (rs.map pyR) ≤ 60 * rs.length
  | [], _ => ⟨rfl, rfl, Nat.zero_le _, rfl, Nat.le_refl _⟩
  | x :: r, h => by
    obtain ⟨a1, a2, a3, a4, a5⟩ := py_rows r fun y hy => h y (List.mem_cons_of_mem _ hy)
    obtain ⟨h1, h2, h3⟩ := h x List.mem_cons_self
    obtain ⟨b1, b2⟩ := show_int h1
    obtain ⟨c1, c2, c3, c4, c5⟩ := py_terms x.2 h2
    refine ⟨?_, ?_, ?_, ?_, ?_⟩
    · show (((PyData.int x.1).showable && (PyData.showableAll (x.2.map pyT) && true)) && PyData.showableAll (r.map pyR)) = true
      rw [b1, c1, a1]
      rfl
    · show ((false || (PyData.hasDictAll (x.2.map pyT) || false)) || PyData.hasDictAll (r.map pyR)) = false
      rw [c2, a2]
      rfl
    · show max (max 0 (max (PyData.depthAll (x.2.map pyT) + 1) 0) + 1) (PyData.depthAll (r.map pyR)) ≤ 4
      omega
    · show (((PyData.int x.1).leavesShort 110 && (PyData.leavesShortAll 110 (x.2.map pyT) && true)) && PyData.leavesShortAll 110 (r.map pyR)) = true
      rw [b2, c4, a4]
      rfl
    · show (0 + 1 + (PyData.bulkAll (x.2.map pyT) + 1 + 0)) + 1 + PyData.bulkAll (r.map pyR) ≤ 60 * (r.length + 1)
      omega
theorem py_sums {rs : List Row} (h : RSm rs) : (pyS rs).showable = true ∧ (pyS rs).hasDict = false ∧ (pyS rs).depth ≤ 60 ∧ (pyS rs).shown.length ≤ sizeLine := by
  obtain ⟨a1, a2, a3, a4, a5⟩ := py_rows rs h.2
  refine ⟨a1, a2, ?_, ?_⟩
  · show PyData.depthAll (rs.map pyR) + 1 ≤ 60
    omega
  · have b := PyData.shown_le_bulk 110 (by decide) (pyS rs) a4
    have c : (pyS rs).bulk ≤ 480 := by
      show PyData.bulkAll (rs.map pyR) ≤ 480
      have := h.1
      omega
    have d : (110 + 2) * (pyS rs).bulk ≤ 112 * 480 := Nat.mul_le_mul_left _ c
    exact sz (by omega)
theorem rows_rok {top deep wide : Int} {rs : List Row} (h : RowsOk top deep wide rs) (h1 : top ≤ 9) (h2 : deep ≤ 9) (h3 : wide < 2 ^ 100) : ROk rs := by
  refine ⟨h.first, h.rises, by have := h.n4; omega, fun r hr => ?_⟩
  obtain ⟨ht, hl, _⟩ := h.terms r hr
  refine ⟨by omega, fun t htm => ?_⟩
  have k := ht t htm
  have k1 := k.p0; have k2 := k.p1; have k3 := k.f0; have k4 := k.f1; have k5 := k.o1; have k6 := k.u0; have k7 := k.u1
  refine ⟨k1, by omega, k3, by omega, ?_, k6, k7⟩
  omega
end OG

set_option Elab.async false
set_option linter.all false
set_option maxRecDepth 100000
set_option maxHeartbeats 4000000
namespace OG
open PySem PySem.Spec PyProof.Rows L2
/-! ### polynomials of whole parts -/
def ev : List Int → Int → Int
  | [], _ => 0
  | c :: r, x => c + x * ev r x
def sgX (n : Int) : Int := if n = 0 then 0 else if 0 < n then 1 else -1
theorem sgX_cases (n : Int) : (n = 0 ∧ sgX n = 0) ∨ (0 < n ∧ sgX n = 1) ∨ (n < 0 ∧ sgX n = -1) := by
  unfold sgX
  by_cases h : n = 0
  · rw [if_pos h]
    exact .inl ⟨h, rfl⟩
  · rw [if_neg h]
    by_cases h2 : 0 < n
    · rw [if_pos h2]
      exact .inr (.inl ⟨h2, rfl⟩)
    · rw [if_neg h2]
      exact .inr (.inr ⟨by omega, rfl⟩)
theorem sgX_eq_zero {n : Int} : sgX n = 0 ↔ n = 0 := by
  rcases sgX_cases n with ⟨h1, h2⟩ | ⟨h1, h2⟩ | ⟨h1, h2⟩ <;> rw [h2] <;> constructor <;> intro h <;> omega
theorem sgX_one {n : Int} : sgX n = 1 ↔ 0 < n := by
  rcases sgX_cases n with ⟨h1, h2⟩ | ⟨h1, h2⟩ | ⟨h1, h2⟩ <;> rw [h2] <;> constructor <;> intro h <;> omega
theorem sgX_neg1 {n : Int} : sgX n = -1 ↔ n < 0 := by
  rcases sgX_cases n with ⟨h1, h2⟩ | ⟨h1, h2⟩ | ⟨h1, h2⟩ <;> rw [h2] <;> constructor <;> intro h <;> omega
theorem sgX_between {a x b : Int} (h : sgX a = sgX b) (h1 : (a ≤ x ∧ x ≤ b) ∨ (b ≤ x ∧ x ≤ a)) : sgX x = sgX a := by
  rcases sgX_cases a with ⟨a1, a2⟩ | ⟨a1, a2⟩ | ⟨a1, a2⟩ <;> rcases sgX_cases b with ⟨b1, b2⟩ | ⟨b1, b2⟩ | ⟨b1, b2⟩ <;> rcases sgX_cases x with ⟨c1, c2⟩ | ⟨c1, c2⟩ | ⟨c1, c2⟩ <;> rw [a2, b2] at h <;> rw [a2, c2] <;> omega
/-! shifting -/
def syn (c : Int) : List Int → List Int
  | [] => []
  | a :: r => match syn c r with
    | [] => [a]
    | b :: t => (a + c * b) :: b :: t
theorem syn_nil {c : Int} : ∀ {p : List Int}, syn c p = [] → p = []
  | [], _ => rfl
  | a :: r, h => by
    unfold syn at h
    cases e : syn c r with
    | nil => rw [e] at h; cases h
    | cons b t => rw [e] at h; cases h
theorem syn_len (c : Int) : ∀ p : List Int, (syn c p).length = p.length
  | [] => rfl
  | a :: r => by
    have ih := syn_len c r
    unfold syn
    cases e : syn c r with
    | nil =>
      rw [e] at ih
      show 1 = r.length + 1
      have : r.length = 0 := ih.symm
      omega
    | cons b t =>
      rw [e] at ih
      show (b :: t).length + 1 = r.length + 1
      rw [ih]
theorem syn_ev (c x : Int) : ∀ {p : List Int} {b : Int} {t : List Int}, syn c p = b :: t → ev p x = b + (x - c) * ev t x
  | [], b, t, h => by cases h
  | a :: r, b, t, h => by
    unfold syn at h
    cases e : syn c r with
    | nil =>
      rw [e] at h
      cases h
      rw [syn_nil e]
      show a + x * 0 = a + (x - c) * 0
      omega
    | cons b' t' =>
      rw [e] at h
      cases h
      have ih := syn_ev c x e
      show a + x * ev r x = (a + c * b') + (x - c) * (b' + x * ev t' x)
      rw [ih]
      grind
def tay (c : Int) : Nat → List Int → List Int
  | 0, _ => []
  | n + 1, p => match syn c p with
    | [] => []
    | b :: t => b :: tay c n t
theorem tay_ev (c x : Int) : ∀ {n : Nat} {p : List Int}, p.length ≤ n → ev (tay c n p) x = ev p (x + c)
  | 0, p, h => by
    have : p = [] := List.eq_nil_of_length_eq_zero (by omega)
    rw [this]
    rfl
  | n + 1, p, h => by
    unfold tay
    cases e : syn c p with
    | nil =>
      rw [syn_nil e]
      rfl
    | cons b t =>
      have l := syn_len c p
      rw [e] at l
      have l2 : t.length + 1 = p.length := l
      have ih := tay_ev c x (n := n) (p := t) (by omega)
      rw [syn_ev c (x + c) e]
      show b + x * ev (tay c n t) x = b + (x + c - c) * ev t (x + c)
      rw [ih, Int.add_sub_cancel]
theorem tay_len (c : Int) : ∀ {n : Nat} {p : List Int}, p.length ≤ n → (tay c n p).length = p.length
  | 0, p, h => by
    have : p = [] := List.eq_nil_of_length_eq_zero (by omega)
    rw [this]
    rfl
  | n + 1, p, h => by
    unfold tay
    cases e : syn c p with
    | nil =>
      rw [syn_nil e]
    | cons b t =>
      have l := syn_len c p
      rw [e] at l
      have l2 : t.length + 1 = p.length := l
      show (tay c n t).length + 1 = p.length
      rw [tay_len c (n := n) (p := t) (by omega), l2]
theorem syn_last (c : Int) : ∀ p : List Int, (syn c p).getLast? = p.getLast?
  | [] => rfl
  | a :: r => by
    have ih := syn_last c r
    unfold syn
    cases e : syn c r with
    | nil =>
      rw [syn_nil e]
    | cons b t =>
      rw [e] at ih
      have hr : r ≠ [] := fun z => by
        rw [z] at e
        cases e
      obtain ⟨r0, r1, er⟩ := List.exists_cons_of_ne_nil hr
      show (_ :: b :: t).getLast? = _
      rw [List.getLast?_cons_cons, ih, er, List.getLast?_cons_cons]
theorem tay_last (c : Int) : ∀ {n : Nat} {p : List Int}, p.length ≤ n → (tay c n p).getLast? = p.getLast?
  | 0, p, h => by
    have : p = [] := List.eq_nil_of_length_eq_zero (by omega)
    rw [this]
    rfl
  | n + 1, p, h => by
    unfold tay
    have sl := syn_last c p
    cases e : syn c p with
    | nil =>
      rw [syn_nil e]
    | cons b t =>
      have l := syn_len c p
      rw [e] at l sl
      have l2 : t.length + 1 = p.length := l
      have ih := tay_last c (n := n) (p := t) (by omega)
      rw [← sl]
      cases t with
      | nil =>
        have e2 : tay c n [] = [] := by cases n <;> rfl
        show (b :: tay c n []).getLast? = _
        rw [e2]
      | cons t0 t1 =>
        have l3 := tay_len c (n := n) (p := t0 :: t1) (by omega)
        cases e3 : tay c n (t0 :: t1) with
        | nil => rw [e3] at l3; cases l3
        | cons u0 u1 =>
          rw [e3] at ih
          show (b :: tay c n (t0 :: t1)).getLast? = _
          rw [e3, List.getLast?_cons_cons, ih, List.getLast?_cons_cons]
/-! noughts at the end -/
def trim : List Int → List Int
  | [] => []
  | a :: r => match trim r with
    | [] => if a = 0 then [] else [a]
    | b :: t => a :: b :: t
theorem trim_ev (x : Int) : ∀ p : List Int, ev (trim p) x = ev p x
  | [] => rfl
  | a :: r => by
    have ih := trim_ev x r
    unfold trim
    cases e : trim r with
    | nil =>
      rw [e] at ih
      have ih2 : ev r x = 0 := ih.symm
      show ev (if a = 0 then [] else [a]) x = a + x * ev r x
      rw [ih2]
      by_cases h : a = 0
      · rw [if_pos h, h]
        show (0 : Int) = 0 + x * 0
        omega
      · rw [if_neg h]
        rfl
    | cons b t =>
      rw [e] at ih
      show a + x * ev (b :: t) x = a + x * ev r x
      rw [ih]
theorem trim_snoc0 : ∀ p : List Int, trim (p ++ [0]) = trim p
  | [] => rfl
  | a :: r => by
    show trim (a :: (r ++ [0])) = trim (a :: r)
    unfold trim
    rw [trim_snoc0 r]
theorem trim_snoc {c : Int} (h : c ≠ 0) : ∀ p : List Int, trim (p ++ [c]) = p ++ [c]
  | [] => by
    show (if c = 0 then [] else [c]) = [c]
    rw [if_neg h]
  | a :: r => by
    show trim (a :: (r ++ [c])) = a :: (r ++ [c])
    unfold trim
    rw [trim_snoc h r]
    cases e : r ++ [c] with
    | nil => simp at e
    | cons b t => rfl
theorem trim_len : ∀ p : List Int, (trim p).length ≤ p.length
  | [] => Nat.le_refl _
  | a :: r => by
    have ih := trim_len r
    unfold trim
    cases e : trim r with
    | nil =>
      show (if a = 0 then [] else [a]).length ≤ r.length + 1
      split
      · exact Nat.zero_le _
      · show 1 ≤ _; omega
    | cons b t =>
      rw [e] at ih
      show (b :: t).length + 1 ≤ r.length + 1
      omega
/-! differences -/
def subL (p q : List Int) : List Int := List.zipWith (fun a b => b - a) p q
theorem subL_ev (x : Int) : ∀ {p q : List Int}, p.length = q.length → ev (subL p q) x = ev q x - ev p x
  | [], [], _ => rfl
  | [], _ :: _, h => by cases h
  | _ :: _, [], h => by cases h
  | a :: r, b :: t, h => by
    have ih := subL_ev x (p := r) (q := t) (by simpa using h)
    show (b - a) + x * ev (subL r t) x = (b + x * ev t x) - (a + x * ev r x)
    rw [ih]
    grind
theorem subL_len {p q : List Int} (h : p.length = q.length) : (subL p q).length = p.length := by
  unfold subL
  rw [List.length_zipWith, h, Nat.min_self]
theorem subL_snoc : ∀ {p q : List Int} {c : Int}, p.length = q.length → subL (p ++ [c]) (q ++ [c]) = subL p q ++ [0]
  | [], [], c, _ => by
    show [c - c] = [0]
    rw [Int.sub_self]
  | [], _ :: _, _, h => by cases h
  | _ :: _, [], _, h => by cases h
  | a :: r, b :: t, c, h => by
    show (b - a) :: subL (r ++ [c]) (t ++ [c]) = (b - a) :: (subL r t ++ [0])
    rw [subL_snoc (p := r) (q := t) (by simpa using h)]
def dif (p : List Int) : List Int := trim (subL p (tay 1 p.length p))
theorem dif_ev (p : List Int) (x : Int) : ev (dif p) x = ev p (x + 1) - ev p x := by
  unfold dif
  rw [trim_ev, subL_ev x (tay_len 1 (Nat.le_refl _)).symm, tay_ev 1 x (Nat.le_refl _)]
theorem dif_len {p : List Int} (h : p ≠ []) : (dif p).length + 1 ≤ p.length := by
  have l := tay_len 1 (n := p.length) (p := p) (Nat.le_refl _)
  have la := tay_last 1 (n := p.length) (p := p) (Nat.le_refl _)
  unfold dif
  obtain ⟨q, c, rfl⟩ : ∃ q c, p = q ++ [c] := by
    rcases List.eq_nil_or_concat p with e | ⟨q, c, e⟩
    · exact absurd e h
    · exact ⟨q, c, by rw [e, List.concat_eq_append]⟩
  rw [List.getLast?_concat] at la
  obtain ⟨q2, c2, e2⟩ : ∃ q2 c2, tay 1 (q ++ [c]).length (q ++ [c]) = q2 ++ [c2] := by
    rcases List.eq_nil_or_concat (tay 1 (q ++ [c]).length (q ++ [c])) with e | ⟨q2, c2, e⟩
    · rw [e] at la
      cases la
    · exact ⟨q2, c2, by rw [e, List.concat_eq_append]⟩
  rw [e2, List.getLast?_concat] at la
  have ec : c2 = c := Option.some.inj la
  rw [e2, List.length_append, List.length_append] at l
  have lq : q.length = q2.length := by
    have l' : q2.length + 1 = q.length + 1 := l
    omega
  rw [e2, ec, subL_snoc lq, trim_snoc0]
  have := trim_len (subL q q2)
  rw [subL_len lq] at this
  rw [List.length_append]
  show _ + 1 ≤ q.length + 1
  omega
def dl (f : Int → Int) : Int → Int := fun x => f (x + 1) - f x
def dk : Nat → (Int → Int) → Int → Int
  | 0, f => f
  | k + 1, f => dl (dk k f)
theorem dk_comm (f : Int → Int) : ∀ k : Nat, dk (k + 1) f = dk k (dl f)
  | 0 => rfl
  | k + 1 => by
    show dl (dk (k + 1) f) = dl (dk k (dl f))
    rw [dk_comm f k]
theorem dl_ev (p : List Int) : dl (ev p) = ev (dif p) := by
  funext x
  rw [dif_ev]
  rfl
theorem ev_const {p : List Int} (h : p.length ≤ 1) : ∀ x y, ev p x = ev p y := fun x y => by
  match p, h with
  | [], _ => rfl
  | [a], _ =>
    show a + x * 0 = a + y * 0
    omega
  | _ :: _ :: _, h => simp at h
theorem dk_const : ∀ {m : Nat} {p : List Int}, p.length ≤ m + 1 → ∀ x y, dk m (ev p) x = dk m (ev p) y
  | 0, p, h => ev_const h
  | m + 1, p, h => by
    rw [dk_comm, dl_ev]
    refine dk_const ?_
    by_cases e : p = []
    · rw [e]
      exact Nat.zero_le _
    · have := dif_len e
      omega
/-! what keeps its sign -/
theorem mono_up {f : Int → Int} {lo hi : Int} (h : ∀ x, lo ≤ x → x < hi → 0 ≤ dl f x) : ∀ (n : Nat) (x : Int), lo ≤ x → x + n ≤ hi → f x ≤ f (x + n)
  | 0, x, _, _ => by
    show f x ≤ f (x + 0)
    rw [Int.add_zero]
    exact Int.le_refl _
  | n + 1, x, h1, h2 => by
    have ih := mono_up h n x h1 (by omega)
    have s := h (x + n) (by omega) (by omega)
    unfold dl at s
    have e : x + ((n + 1 : Nat) : Int) = x + n + 1 := by omega
    rw [e]
    omega
def MonoS (f : Int → Int) (lo hi : Int) : Prop := (∀ x y, lo ≤ x → x ≤ y → y ≤ hi → f x ≤ f y) ∨ (∀ x y, lo ≤ x → x ≤ y → y ≤ hi → f y ≤ f x)
theorem mono_pos {f : Int → Int} {lo hi : Int} (h : ∀ x, lo ≤ x → x < hi → 0 ≤ dl f x) : MonoS f lo hi := .inl fun x y h1 h2 h3 => by
  have := mono_up h (y - x).toNat x h1 (by omega)
  rwa [show x + ((y - x).toNat : Int) = y by omega] at this
theorem mono_neg {f : Int → Int} {lo hi : Int} (h : ∀ x, lo ≤ x → x < hi → dl f x ≤ 0) : MonoS f lo hi := .inr fun x y h1 h2 h3 => by
  have := mono_up (f := fun z => - f z) (lo := lo) (hi := hi) (fun z z1 z2 => by
    have := h z z1 z2
    unfold dl at this ⊢
    show 0 ≤ - f (z + 1) - - f z
    omega) (y - x).toNat x h1 (by omega)
  rw [show x + ((y - x).toNat : Int) = y by omega] at this
  have this2 : - f x ≤ - f y := this
  omega
theorem MonoS.sg {f : Int → Int} {lo hi a x b : Int} (h : MonoS f lo hi) (h1 : lo ≤ a) (h2 : a ≤ x) (h3 : x ≤ b) (h4 : b ≤ hi) (e : sgX (f a) = sgX (f b)) : sgX (f x) = sgX (f a) := by
  rcases h with h | h
  · exact sgX_between e (.inl ⟨h a x h1 h2 (by omega), h x b (by omega) h3 h4⟩)
  · exact sgX_between e (.inr ⟨h x b (by omega) h3 h4, h a x h1 h2 (by omega)⟩)
def OneS (f : Int → Int) (lo hi : Int) : Prop := (∀ x, lo ≤ x → x ≤ hi → 0 ≤ f x) ∨ (∀ x, lo ≤ x → x ≤ hi → f x ≤ 0)
theorem OneS.mono {f : Int → Int} {lo hi : Int} (h : OneS (dl f) lo (hi - 1)) : MonoS f lo hi := by
  rcases h with h | h
  · exact mono_pos fun x h1 h2 => h x h1 (by omega)
  · exact mono_neg fun x h1 h2 => h x h1 (by omega)
theorem OneS.down {f : Int → Int} {lo hi : Int} (h : OneS (dl f) lo (hi - 1)) (hl : lo ≤ hi) (e : ¬ sgX (f lo) * sgX (f hi) < 0) : OneS f lo hi := by
  have m := h.mono
  have key : (0 ≤ f lo ∧ 0 ≤ f hi) ∨ (f lo ≤ 0 ∧ f hi ≤ 0) := by
    rcases sgX_cases (f lo) with ⟨a1, a2⟩ | ⟨a1, a2⟩ | ⟨a1, a2⟩ <;> rcases sgX_cases (f hi) with ⟨b1, b2⟩ | ⟨b1, b2⟩ | ⟨b1, b2⟩ <;> rw [a2, b2] at e <;> omega
  rcases key with ⟨k1, k2⟩ | ⟨k1, k2⟩
  · refine .inl fun x h1 h2 => ?_
    rcases m with m | m
    · exact Int.le_trans k1 (m lo x (Int.le_refl _) h1 h2)
    · exact Int.le_trans k2 (m x hi h1 h2 (Int.le_refl _))
  · refine .inr fun x h1 h2 => ?_
    rcases m with m | m
    · exact Int.le_trans (m x hi h1 h2 (Int.le_refl _)) k2
    · exact Int.le_trans (m lo x (Int.le_refl _) h1 h2) k1
/-- is_steady's tests, all passed -/
theorem steady {p : List Int} {lo hi s : Int} {m : Nat} (hl : lo ≤ hi) (hm : (m : Int) ≤ hi - lo) (h1 : p.length ≤ m + 1 ∨ (m : Int) = hi - lo) (ha : sgX (ev p lo) = s) (hb : sgX (ev p hi) = s)
    (ht : ∀ k : Nat, 1 ≤ k → k ≤ m → ¬ sgX (dk k (ev p) lo) * sgX (dk k (ev p) (hi - k)) < 0) : ∀ x, lo ≤ x → x ≤ hi → sgX (ev p x) = s := by
  have top : OneS (dk m (ev p)) lo (hi - m) := by
    rcases h1 with h | h
    · have c := dk_const (m := m) (p := p) h
      rcases Int.le_total 0 (dk m (ev p) lo) with z | z
      · exact .inl fun x _ _ => by rw [c x lo]; exact z
      · exact .inr fun x _ _ => by rw [c x lo]; exact z
    · rcases Int.le_total 0 (dk m (ev p) lo) with z | z
      · refine .inl fun x x1 x2 => ?_
        rw [show x = lo by omega]
        exact z
      · refine .inr fun x x1 x2 => ?_
        rw [show x = lo by omega]
        exact z
  have down : ∀ j : Nat, j + 1 ≤ m → OneS (dk (m - j) (ev p)) lo (hi - ((m - j : Nat) : Int)) := fun j => by
    induction j with
    | zero => intro _; exact top
    | succ j ih =>
      intro hj
      have ih' := ih (by omega)
      have e1 : m - j = (m - (j + 1)) + 1 := by omega
      rw [e1] at ih'
      have e2 : hi - (((m - (j + 1)) + 1 : Nat) : Int) = hi - ((m - (j + 1) : Nat) : Int) - 1 := by omega
      rw [e2] at ih'
      exact OneS.down ih' (by omega) (ht _ (by omega) (by omega))
  cases m with
  | zero =>
    intro x x1 x2
    rcases h1 with h | h
    · rw [ev_const (by omega) x lo]
      exact ha
    · rw [show x = lo by omega]
      exact ha
  | succ m =>
    have d := down m (by omega)
    have e1 : m + 1 - m = 1 := by omega
    rw [e1] at d
    have d2 : OneS (dl (ev p)) lo (hi - 1) := d
    intro x x1 x2
    rw [← ha]
    exact d2.mono.sg (Int.le_refl _) x1 x2 (Int.le_refl _) (ha.trans hb.symm)
/-! ### cuts -/
def SegsP (P : Int → Int → Prop) : Int → Int → List Int → Prop
  | _, _, [] => False
  | lo, hi, [s] => s = lo ∧ lo ≤ hi ∧ P lo hi
  | lo, hi, s :: t :: r => s = lo ∧ lo < t ∧ P lo (t - 1) ∧ SegsP P t hi (t :: r)
def endsL : List Int → Int → List Int
  | [], hi => [hi]
  | [_], hi => [hi]
  | _ :: t :: r, hi => (t - 1) :: endsL (t :: r) hi
theorem SegsP.le {P : Int → Int → Prop} : ∀ {ss : List Int} {lo hi : Int}, SegsP P lo hi ss → lo ≤ hi
  | [], _, _, h => h.elim
  | [s], lo, hi, h => h.2.1
  | s :: t :: r, lo, hi, h => by
    have := SegsP.le h.2.2.2
    have := h.2.1
    omega
theorem SegsP.imp {P Q : Int → Int → Prop} (f : ∀ a b, P a b → Q a b) : ∀ {ss : List Int} {lo hi : Int}, SegsP P lo hi ss → SegsP Q lo hi ss
  | [], _, _, h => h.elim
  | [s], lo, hi, h => ⟨h.1, h.2.1, f _ _ h.2.2⟩
  | s :: t :: r, lo, hi, h => ⟨h.1, h.2.1, f _ _ h.2.2.1, SegsP.imp f h.2.2.2⟩
theorem SegsP.app {P : Int → Int → Prop} {hi : Int} {ys : List Int} : ∀ {xs : List Int} {lo mid : Int}, SegsP P lo mid xs → SegsP P (mid + 1) hi ys → SegsP P lo hi (xs ++ ys)
  | [], _, _, h, _ => h.elim
  | [s], lo, mid, h, k => by
    cases ys with
    | nil => exact k.elim
    | cons t r =>
      obtain ⟨rfl, h2, h3⟩ := h
      have ht : t = mid + 1 := by
        cases r with
        | nil => exact k.1
        | cons _ _ => exact k.1
      refine ⟨rfl, by omega, ?_, ?_⟩
      · rw [ht, Int.add_sub_cancel]
        exact h3
      · rw [ht] at k ⊢
        exact k
  | s :: t :: r, lo, mid, h, k => ⟨h.1, h.2.1, h.2.2.1, SegsP.app h.2.2.2 k⟩
theorem endsL_len : ∀ {ss : List Int} {hi : Int}, ss ≠ [] → (endsL ss hi).length = ss.length
  | [], _, h => absurd rfl h
  | [_], _, _ => rfl
  | _ :: t :: r, hi, _ => by
    show (endsL (t :: r) hi).length + 1 = _
    rw [endsL_len (by simp)]
    rfl
theorem SegsP.get {P : Int → Int → Prop} : ∀ {ss : List Int} {lo hi : Int} {i : Nat} {s e : Int}, SegsP P lo hi ss → ss[i]? = some s → (endsL ss hi)[i]? = some e →
    P s e ∧ s ≤ e ∧ lo ≤ s ∧ e ≤ hi ∧ (i = 0 → s = lo) ∧ (i + 1 = ss.length → e = hi) ∧ ∀ s', ss[i + 1]? = some s' → e + 1 = s'
  | [], _, _, _, _, _, h, _, _ => h.elim
  | [a], lo, hi, 0, s, e, h, h1, h2 => by
    cases h1
    cases h2
    obtain ⟨rfl, k2, k3⟩ := h
    exact ⟨k3, k2, Int.le_refl _, Int.le_refl _, fun _ => rfl, fun _ => rfl, fun s' z => by cases z⟩
  | [a], lo, hi, i + 1, s, e, h, h1, h2 => by cases h1
  | a :: t :: r, lo, hi, 0, s, e, h, h1, h2 => by
    cases h1
    cases h2
    obtain ⟨rfl, k2, k3, k4⟩ := h
    refine ⟨k3, by omega, Int.le_refl _, by have := k4.le; omega, fun _ => rfl, fun z => by simp at z, fun s' z => ?_⟩
    cases z
    omega
  | a :: t :: r, lo, hi, i + 1, s, e, h, h1, h2 => by
    obtain ⟨rfl, k2, k3, k4⟩ := h
    obtain ⟨g1, g2, g3, g4, g5, g6, g7⟩ := SegsP.get (ss := t :: r) (i := i) k4 h1 h2
    refine ⟨g1, g2, by omega, g4, fun z => by omega, fun z => g6 ?_, g7⟩
    have z' : i + 1 + 1 = (t :: r).length + 1 := z
    omega
/-- where a function keeps its sign -/
def Keeps (f : Int → Int) (a b : Int) : Prop := ∀ x, a ≤ x → x ≤ b → sgX (f x) = sgX (f a)
theorem keeps_mono {f g : Int → Int} (h : ∀ x, g x = dl f x) {a b : Int} (k : Keeps g a b) : MonoS f a b := by
  rcases sgX_cases (g a) with ⟨z1, z2⟩ | ⟨z1, z2⟩ | ⟨z1, z2⟩
  · refine mono_pos fun x h1 h2 => ?_
    have := k x h1 (by omega)
    rw [z2, sgX_eq_zero, h] at this
    omega
  · refine mono_pos fun x h1 h2 => ?_
    have := k x h1 (by omega)
    rw [z2, sgX_one, h] at this
    omega
  · refine mono_neg fun x h1 h2 => ?_
    have := k x h1 (by omega)
    rw [z2, sgX_neg1, h] at this
    omega
theorem const_mono {f : Int → Int} (h : ∀ x y, f x = f y) (a b : Int) : MonoS f a b := .inl fun x y _ _ _ => by rw [h x y]; exact Int.le_refl _
end OG

set_option Elab.async false
set_option linter.all false
set_option maxRecDepth 100000
set_option maxHeartbeats 4000000
namespace OG
open PySem PySem.Spec PyProof.Rows L2
/-- xs[i] of a list, for xs[i] += e -/
theorem get_list {X : Cx} : PGet X (fun x y H Q => ∃ p xs, ∃ (i : Nat) (z : V), x = .ref p ∧ y = .int i ∧ H p = some (.lst xs) ∧ xs[i]? = some z ∧ Q z H) := by
  intro pins s σ H x y v u Q I rx ry h
  obtain ⟨p, xs, i, z, rfl, rfl, hq, he, q⟩ := h
  cases rx
  obtain ⟨t, rfl⟩ := ry
  obtain ⟨its, r, pl, hz⟩ := I.list (SqL.of hq)
  obtain ⟨w, ew, rw'⟩ := r.get he
  have hl := r.length
  have hn := line63
  have hi := (List.getElem?_eq_some_iff.mp he).1
  exact wpAny_getItem_list pl.isList (by omega) (by omega) (by simpa using ew) ⟨z, H, I, rw', q⟩
/-! ### bounds -/
def Cf (B : Nat) (p : List Int) : Prop := ∀ c ∈ p, c.natAbs < 2 ^ B
theorem ev_bits {B C : Nat} {x : Int} (hx : x.natAbs < 2 ^ C) : ∀ {p : List Int}, Cf B p → (ev p x).natAbs < 2 ^ (B + p.length * (C + 1))
  | [], _ => by
    show (0 : Int).natAbs < _
    exact Nat.pow_pos (by decide)
  | c :: r, h => by
    have ih := ev_bits hx (p := r) fun d hd => h d (List.mem_cons_of_mem _ hd)
    have hc := h c List.mem_cons_self
    show (c + x * ev r x).natAbs < 2 ^ (B + (r.length + 1) * (C + 1))
    have e : B + (r.length + 1) * (C + 1) = (B + r.length * (C + 1) + C) + 1 := by rw [Nat.add_mul, Nat.one_mul]; omega
    rw [e, Nat.pow_succ]
    have h1 : (x * ev r x).natAbs ≤ 2 ^ (B + r.length * (C + 1) + C) - 1 := by
      rw [Int.natAbs_mul, Nat.pow_add, Nat.mul_comm (2 ^ _) (2 ^ C)]
      have := Nat.mul_lt_mul'' hx ih
      omega
    have h2 : c.natAbs < 2 ^ (B + r.length * (C + 1) + C) := Nat.lt_of_lt_of_le hc (Nat.pow_le_pow_right (by decide) (by omega))
    have h3 := Int.natAbs_add_le c (x * ev r x)
    omega
/-- a polynomial that may be asked at x -/
def POk (p : List Int) (x : Int) : Prop := p.length ≤ 1000 ∧ ∃ B C : Nat, Cf B p ∧ x.natAbs < 2 ^ C ∧ 0 < B ∧ B + (p.length + 1) * (C + 1) ≤ 400000
def PIn (p : List Int) (lo hi : Int) : Prop := p.length ≤ 1000 ∧ ∃ B C : Nat, Cf B p ∧ lo.natAbs < 2 ^ C ∧ hi.natAbs < 2 ^ C ∧ 0 < B ∧ B + (p.length + 1) * (C + 1) ≤ 400000
theorem PIn.at {p : List Int} {lo hi x : Int} (h : PIn p lo hi) (h1 : lo ≤ x) (h2 : x ≤ hi) : POk p x := by
  obtain ⟨l, B, C, a, b, c, d⟩ := h
  exact ⟨l, B, C, a, by omega, d⟩
theorem PIn.sub {p : List Int} {lo hi a b : Int} (h : PIn p lo hi) (h1 : lo ≤ a) (h2 : a ≤ hi) (h3 : lo ≤ b) (h4 : b ≤ hi) : PIn p a b := by
  obtain ⟨l, B, C, q, b1, c, d⟩ := h
  exact ⟨l, B, C, q, by omega, by omega, d⟩
/-! ### contracts -/
def LAt (H : Hp) (a : Addr) (p : List Int) : Prop := H a = some (.lst (p.map V.int))
def spSg : Sp := fun vs H Q _ => ∃ n : Int, vs = [.int n] ∧ Q (.int (sgX n)) H
def spTrim : Sp := fun vs H Q _ => ∃ (a : Addr) (p : List Int), vs = [.ref a] ∧ LAt H a p ∧ p.length < 100000 ∧ ∀ (b : Addr) (H' : Hp), Same H H' → H b = none → LAt H' b (trim p) → Q (.ref b) H'
def spVal : Sp := fun vs H Q _ => ∃ (a : Addr) (p : List Int) (x : Int), vs = [.ref a, .int x] ∧ LAt H a p ∧ POk p x ∧ Q (.int (ev p x)) H
def spSgAt : Sp := fun vs H Q _ => ∃ (a : Addr) (p : List Int) (x : Int), vs = [.ref a, .int x] ∧ LAt H a p ∧ POk p x ∧ Q (.int (sgX (ev p x))) H
def rowF (f : Int → Int) (lo : Int) (n : Nat) : List Int := (List.range n).map fun (i : Nat) => f (lo + i)
def spVals : Sp := fun vs H Q _ => ∃ (a : Addr) (p : List Int) (lo : Int) (n : Nat), vs = [.ref a, .int lo, .int n] ∧ LAt H a p ∧ n < 1000 ∧ (∀ i : Nat, i < n → POk p (lo + i)) ∧ ∀ (b : Addr) (H' : Hp), Same H H' → H b = none → LAt H' b (rowF (ev p) lo n) → Q (.ref b) H'
def spGaps : Sp := fun vs H Q _ => ∃ (a : Addr) (f : Int → Int) (lo : Int) (n : Nat), vs = [.ref a] ∧ LAt H a (rowF f lo (n + 1)) ∧ n < 1000 ∧ ∀ (b : Addr) (H' : Hp), Same H H' → H b = none → LAt H' b (rowF (dl f) lo n) → Q (.ref b) H'
def spShift : Sp := fun vs H Q _ => ∃ (a : Addr) (p : List Int), vs = [.ref a, .int 1] ∧ LAt H a p ∧ p.length ≤ 1000 ∧ ∀ (b : Addr) (H' : Hp), Same H H' → H b = none → LAt H' b (tay 1 p.length p) → Q (.ref b) H'
def spDif : Sp := fun vs H Q _ => ∃ (a : Addr) (p : List Int), vs = [.ref a] ∧ LAt H a p ∧ p.length ≤ 1000 ∧ ∀ (b : Addr) (H' : Hp), Same H H' → H b = none → LAt H' b (dif p) → Q (.ref b) H'
theorem rowF_len (f : Int → Int) (lo : Int) (n : Nat) : (rowF f lo n).length = n := by
  unfold rowF
  rw [List.length_map, List.length_range]
theorem rowF_get {f : Int → Int} {lo : Int} {n i : Nat} (h : i < n) : (rowF f lo n)[i]? = some (f (lo + i)) := by
  unfold rowF
  rw [List.getElem?_map, List.getElem?_range h]
  rfl
theorem mapI_get {p : List Int} {i : Nat} {c : Int} (h : p[i]? = some c) : (p.map V.int)[i]? = some (.int c) := by
  rw [List.getElem?_map, h]
  rfl
theorem rowF_snoc (f : Int → Int) (lo : Int) (n : Nat) : rowF f lo (n + 1) = rowF f lo n ++ [f (lo + n)] := by
  unfold rowF
  rw [List.range_succ, List.map_append]
  rfl
end OG
namespace OG
open PySem PySem.Spec PyProof.Rows L2
def spSteady : Sp := fun vs H Q _ => ∃ (a : Addr) (p : List Int) (lo hi s : Int), vs = [.ref a, .int lo, .int hi, .int s] ∧ LAt H a p ∧ lo ≤ hi ∧ PIn p lo hi ∧ p.length ≤ 900 ∧ ∀ (b : Bool) (H' : Hp), Same H H' → (b = true → ∀ x, lo ≤ x → x ≤ hi → sgX (ev p x) = s) → Q (.bl b) H'
def spTurned : Sp := fun vs H Q _ => ∃ (a : Addr) (p : List Int) (lo hi : Int), vs = [.ref a, .int lo, .int hi] ∧ LAt H a p ∧ lo < hi ∧ PIn p lo hi ∧ sgX (ev p lo) ≠ sgX (ev p hi) ∧ ∀ h : Int, lo < h → h ≤ hi → sgX (ev p (h - 1)) = sgX (ev p lo) → sgX (ev p h) ≠ sgX (ev p lo) → Q (.int h) H
def spStarts : Sp := fun vs H Q _ => ∃ (a : Addr) (p : List Int) (lo hi : Int), vs = [.ref a, .int lo, .int hi] ∧ LAt H a p ∧ lo ≤ hi ∧ PIn p lo hi ∧ MonoS (ev p) lo hi ∧ ∀ (b : Addr) (ss : List Int) (H' : Hp), Same H H' → H b = none → LAt H' b ss → SegsP (Keeps (ev p)) lo hi ss → ss.length ≤ 3 → Q (.ref b) H'
def spEnds : Sp := fun vs H Q _ => ∃ (a : Addr) (ss : List Int) (hi : Int), vs = [.ref a, .int hi] ∧ LAt H a ss ∧ ss ≠ [] ∧ ss.length < 90000 ∧ ∀ (b : Addr) (H' : Hp), Same H H' → H b = none → LAt H' b (endsL ss hi) → Q (.ref b) H'
def spEndless : Sp := fun vs H Q _ => ∃ (a : Addr) (p : List Int) (lo s : Int), vs = [.ref a, .int lo, .int s] ∧ LAt H a p ∧ p.length ≤ 900 ∧ POk p lo ∧ (∀ i : Nat, i < p.length → POk p (lo + i)) ∧
  ∀ (b : Bool) (H' : Hp), Same H H' → (b = true → s ≠ 0 → ∀ x, lo ≤ x → sgX (ev p x) = s) → (p.length ≤ 1 → sgX (ev p lo) = s → b = true) → Q (.bl b) H'
theorem sgX_le {a b : Int} (h : a ≤ b) : sgX a ≤ sgX b := by
  rcases sgX_cases a with ⟨a1, a2⟩ | ⟨a1, a2⟩ | ⟨a1, a2⟩ <;> rcases sgX_cases b with ⟨b1, b2⟩ | ⟨b1, b2⟩ | ⟨b1, b2⟩ <;> rw [a2, b2] <;> omega
theorem sgX_bd (a : Int) : -1 ≤ sgX a ∧ sgX a ≤ 1 := by
  rcases sgX_cases a with ⟨a1, a2⟩ | ⟨a1, a2⟩ | ⟨a1, a2⟩ <;> rw [a2] <;> omega
theorem endsL_eq (s : Int) (hi : Int) : ∀ r : List Int, endsL (s :: r) hi = r.map (fun x => x - 1) ++ [hi]
  | [] => rfl
  | t :: r => by
    show (t - 1) :: endsL (t :: r) hi = _
    rw [endsL_eq t hi r]
    rfl
theorem SegsP.one {P : Int → Int → Prop} {lo hi : Int} (h : lo ≤ hi) (p : P lo hi) : SegsP P lo hi [lo] := ⟨rfl, h, p⟩
/-- ss0 covers all ahead of the last start -/
def Pre (f : Int → Int) (lo : Int) (ss0 : List Int) (last : Int) : Prop := (ss0 = [] ∧ last = lo) ∨ SegsP (Keeps f) lo (last - 1) ss0
theorem Pre.close {f : Int → Int} {lo hi last : Int} {ss0 : List Int} (h : Pre f lo ss0 last) (hl : last ≤ hi) (k : Keeps f last hi) : SegsP (Keeps f) lo hi (ss0 ++ [last]) := by
  rcases h with ⟨rfl, rfl⟩ | h
  · exact SegsP.one hl k
  · refine SegsP.app h ?_
    rw [Int.sub_add_cancel]
    exact SegsP.one hl k
/-- all differences at lo are not against the sign -/
theorem endless_up {p : List Int} {lo : Int} : ∀ (m : Nat), (∀ k : Nat, k ≤ m → 0 ≤ dk k (ev p) lo) → (∀ x y, dk m (ev p) x = dk m (ev p) y) → ∀ j : Nat, j ≤ m → ∀ x, lo ≤ x → dk (m - j) (ev p) lo ≤ dk (m - j) (ev p) x
  | m, h, hc, 0, _, x, _ => by
    show dk m (ev p) lo ≤ dk m (ev p) x
    rw [hc x lo]
    exact Int.le_refl _
  | m, h, hc, j + 1, hj, x, hx => by
    have e : m - j = (m - (j + 1)) + 1 := by omega
    have st : ∀ y, lo ≤ y → y < x + 1 → 0 ≤ dl (dk (m - (j + 1)) (ev p)) y := fun y y1 _ => by
      have ih := endless_up m h hc j (by omega) y y1
      rw [e] at ih
      have h0 := h ((m - (j + 1)) + 1) (by omega)
      exact Int.le_trans h0 ih
    have := mono_up st (x - lo).toNat lo (Int.le_refl _) (by omega)
    rwa [show lo + ((x - lo).toNat : Int) = x by omega] at this
theorem dk_neg (f : Int → Int) : ∀ (k : Nat) (x : Int), dk k (fun z => - f z) x = - dk k f x
  | 0, _ => rfl
  | k + 1, x => by
    show dk k (fun z => - f z) (x + 1) - dk k (fun z => - f z) x = - (dk k f (x + 1) - dk k f x)
    rw [dk_neg f k, dk_neg f k]
    omega
theorem ev_neg (x : Int) : ∀ p : List Int, ev (p.map fun c => - c) x = - ev p x
  | [] => rfl
  | c :: r => by
    show - c + x * ev (r.map fun c => - c) x = - (c + x * ev r x)
    rw [ev_neg x r, Int.mul_neg]
    omega
theorem endless {p : List Int} {lo s : Int} (hs : s ≠ 0) (h0 : sgX (ev p lo) = s) (h : ∀ k : Nat, k + 1 ≤ p.length → sgX (dk k (ev p) lo) ≠ - s) : ∀ x, lo ≤ x → sgX (ev p x) = s := by
  have hp : p ≠ [] := fun z => by
    rw [z] at h0
    exact hs h0.symm
  have lp : 0 < p.length := List.length_pos_iff.mpr hp
  have pos : ∀ {q : List Int}, q.length = p.length → sgX (ev q lo) = 1 → (∀ k : Nat, k + 1 ≤ q.length → sgX (dk k (ev q) lo) ≠ -1) → ∀ x, lo ≤ x → sgX (ev q x) = 1 := fun {q} hq g0 g x hx => by
    have hc := dk_const (m := q.length - 1) (p := q) (by omega)
    have hk : ∀ k : Nat, k ≤ q.length - 1 → 0 ≤ dk k (ev q) lo := fun k hk => by
      have := g k (by omega)
      rcases sgX_cases (dk k (ev q) lo) with ⟨a1, a2⟩ | ⟨a1, a2⟩ | ⟨a1, a2⟩
      · omega
      · omega
      · exact absurd a2 this
    have := endless_up (q.length - 1) hk hc (q.length - 1) (Nat.le_refl _) x hx
    rw [Nat.sub_self] at this
    have this2 : ev q lo ≤ ev q x := this
    rw [sgX_one] at g0 ⊢
    omega
  rcases sgX_cases (ev p lo) with ⟨a1, a2⟩ | ⟨a1, a2⟩ | ⟨a1, a2⟩
  · rw [a2] at h0
    exact absurd h0.symm hs
  · rw [a2] at h0
    subst h0
    exact pos rfl a2 h
  · rw [a2] at h0
    subst h0
    have e : (fun z => - ev p z) = ev (p.map fun c => - c) := by
      funext z
      rw [ev_neg]
    have neg1 : ∀ n : Int, sgX (- n) = - sgX n := fun n => by
      rcases sgX_cases n with ⟨b1, b2⟩ | ⟨b1, b2⟩ | ⟨b1, b2⟩ <;> rcases sgX_cases (- n) with ⟨c1, c2⟩ | ⟨c1, c2⟩ | ⟨c1, c2⟩ <;> rw [b2, c2] <;> omega
    have r := pos (q := p.map fun c => - c) (List.length_map _) (by rw [ev_neg, neg1, a2]; rfl) (fun k hk => by
      rw [← e, dk_neg, neg1]
      rw [List.length_map] at hk
      have := h k hk
      intro z
      exact this (by omega))
    intro x hx
    have := r x hx
    rw [ev_neg, neg1] at this
    omega
end OG
namespace OG
open PySem PySem.Spec PyProof.Rows L2
def difk : Nat → List Int → List Int
  | 0, p => p
  | k + 1, p => dif (difk k p)
theorem difk_ev (p : List Int) : ∀ k : Nat, dl (ev (difk k p)) = ev (difk (k + 1) p) := fun k => dl_ev _
theorem difk_len : ∀ (k : Nat) (p : List Int), (difk k p).length + k ≤ p.length ∨ difk k p = []
  | 0, p => .inl (Nat.le_refl _)
  | k + 1, p => by
    rcases difk_len k p with h | h
    · by_cases e : difk k p = []
      · right
        show dif (difk k p) = []
        rw [e]
        rfl
      · left
        have := dif_len e
        show (dif (difk k p)).length + (k + 1) ≤ p.length
        omega
    · right
      show dif (difk k p) = []
      rw [h]
      rfl
/-- the runs as they are told: starts ss, ends, signs -/
def RunsAt (H : Hp) (p : List Int) (hi : Int) (us : List V) (ss : List Int) : Prop := us.length = ss.length ∧ ∀ (i : Nat) (u : V) (s e : Int), us[i]? = some u → ss[i]? = some s → (endsL ss hi)[i]? = some e → ∃ t, u = .ref t ∧ H t = some (.tup [.int s, .int e, .int (sgX (ev p s))])
def spRuns : Sp := fun vs H Q _ => ∃ (a : Addr) (p : List Int) (lo hi : Int), vs = [.ref a, .int lo, .int hi] ∧ LAt H a p ∧ p.length ≤ 10 ∧ (lo ≤ hi → ∀ k : Nat, PIn (difk k p) lo hi) ∧
  ∀ (b : Addr) (us : List V) (ss : List Int) (H' : Hp), Same H H' → H b = none → H' b = some (.lst us) → ((hi < lo ∧ us = []) ∨ (lo ≤ hi ∧ SegsP (Keeps (ev p)) lo hi ss ∧ RunsAt H' p hi us ss ∧ ss.length < 90000 ∧ ss.length ≤ 3 ^ (p.length + 1))) → Q (.ref b) H'
end OG

set_option Elab.async false
set_option linter.all false
set_option maxRecDepth 100000
set_option maxHeartbeats 4000000
namespace OG
open PySem PySem.Spec PyProof.Rows L2
/-! ### stretches: since, powers of the size with polynomials of its figures -/
abbrev Pw := List (Nat × List Int)
abbrev Stretch := Int × Pw
def PwAt (H : Hp) (l : Addr) (pw : Pw) : Prop := ∃ us : List V, H l = some (.lst us) ∧ us.length = pw.length ∧ ∀ (i : Nat) (u : V) (p : Nat × List Int), us[i]? = some u → pw[i]? = some p → ∃ t b, u = .ref t ∧ H t = some (.tup [.int p.1, .ref b]) ∧ LAt H b p.2
theorem PwAt.same {H H' : Hp} {l : Addr} {pw : Pw} (h : PwAt H l pw) (s : Same H H') : PwAt H' l pw := by
  obtain ⟨us, h1, h2, h3⟩ := h
  refine ⟨us, s _ _ h1, h2, fun i u p hu hp => ?_⟩
  obtain ⟨t, b, e1, e2, e3⟩ := h3 i u p hu hp
  exact ⟨t, b, e1, s _ _ e2, s _ _ e3⟩
def StAt (H : Hp) (v : V) (st : Stretch) : Prop := ∃ t l, v = .ref t ∧ H t = some (.tup [.int st.1, .ref l]) ∧ PwAt H l st.2
theorem StAt.same {H H' : Hp} {v : V} {st : Stretch} (h : StAt H v st) (s : Same H H') : StAt H' v st := by
  obtain ⟨t, l, h1, h2, h3⟩ := h
  exact ⟨t, l, h1, s _ _ h2, h3.same s⟩
def StsAt (H : Hp) (S : Addr) (sts : List Stretch) : Prop := ∃ us : List V, H S = some (.lst us) ∧ us.length = sts.length ∧ ∀ (i : Nat) (u : V) (st : Stretch), us[i]? = some u → sts[i]? = some st → StAt H u st
theorem StsAt.same {H H' : Hp} {S : Addr} {sts : List Stretch} (h : StsAt H S sts) (s : Same H H') : StsAt H' S sts := by
  obtain ⟨us, h1, h2, h3⟩ := h
  exact ⟨us, s _ _ h1, h2, fun i u st hu hst => (h3 i u st hu hst).same s⟩
/-- what powers come to -/
def pwEv : Pw → Int → Int → Int
  | [], _, _ => 0
  | p :: r, L, n => ev p.2 L * n ^ p.1 + pwEv r L n
structure PwOk (pw : Pw) : Prop where
  falls : pw.Pairwise fun a b => b.1 < a.1
  low : ∀ p ∈ pw, p.1 ≤ 9
theorem ev_set {v : Int} (n : Int) : ∀ {q : List Int} {k : Nat}, q[k]? = some 0 → ev (q.set k v) n = ev q n + v * n ^ k
  | [], k, h => by simp at h
  | a :: r, 0, h => by
    have e : a = 0 := Option.some.inj h
    show v + n * ev r n = a + n * ev r n + v * n ^ 0
    rw [e, Int.pow_zero]
    omega
  | a :: r, k + 1, h => by
    have ih := ev_set (v := v) n (q := r) (k := k) h
    show a + n * ev (r.set k v) n = a + n * ev r n + v * n ^ (k + 1)
    rw [ih, Int.pow_succ, Int.mul_add]
    have : n * (v * n ^ k) = v * (n ^ k * n) := by grind
    omega
theorem ev_noughts (n : Int) : ∀ k : Nat, ev (List.replicate k 0) n = 0
  | 0 => rfl
  | k + 1 => by
    rw [List.replicate_succ]
    show 0 + n * ev (List.replicate k 0) n = 0
    rw [ev_noughts n k]
    omega
theorem pwEv_take {pw : Pw} {i : Nat} {p : Nat × List Int} (L n : Int) (h : pw[i]? = some p) : pwEv (pw.take (i + 1)) L n = pwEv (pw.take i) L n + ev p.2 L * n ^ p.1 := by
  have app : ∀ (a b : Pw), pwEv (a ++ b) L n = pwEv a L n + pwEv b L n := fun a b => by
    induction a with
    | nil => show pwEv b L n = 0 + pwEv b L n; omega
    | cons x r ih =>
      show ev x.2 L * n ^ x.1 + pwEv (r ++ b) L n = ev x.2 L * n ^ x.1 + pwEv r L n + pwEv b L n
      rw [ih]
      omega
  rw [List.take_add_one, h, app]
  show _ + (ev p.2 L * n ^ p.1 + 0) = _
  omega
/-- trimming keeps bounds -/
theorem trim_mem : ∀ {p : List Int} {c : Int}, c ∈ trim p → c ∈ p
  | [], c, h => h
  | a :: r, c, h => by
    unfold trim at h
    cases e : trim r with
    | nil =>
      rw [e] at h
      have h' : c ∈ (if a = 0 then [] else [a]) := h
      split at h'
      · cases h'
      · rw [List.mem_singleton.mp h']
        exact List.mem_cons_self
    | cons b t =>
      rw [e] at h
      rcases List.mem_cons.mp h with rfl | h
      · exact List.mem_cons_self
      · exact List.mem_cons_of_mem _ (trim_mem (p := r) (by rw [e]; exact h))
def spPutIn : Sp := fun vs H Q _ => ∃ (l : Addr) (pw : Pw) (L : Int) (B : Nat), vs = [.ref l, .int L] ∧ PwAt H l pw ∧ PwOk pw ∧ pw.length ≤ 20 ∧ (∀ p ∈ pw, POk p.2 L) ∧ (∀ p ∈ pw, (ev p.2 L).natAbs < 2 ^ B) ∧
  ∀ (b : Addr) (q : List Int) (H' : Hp), Same H H' → H b = none → LAt H' b q → (∀ n, ev q n = pwEv pw L n) → q.length ≤ 10 → Cf B q → (∀ d, (∀ p ∈ pw, p.1 ≤ d) → q.length ≤ d + 1) → Q (.ref b) H'
/-! ### cells: sizes of one many figures -/
structure Cell where
  L : Int
  a : Int
  z : Int
def CellsP (lo hi : Int) : List Cell → Prop
  | [] => hi < lo
  | c :: r => c.a = lo ∧ c.a ≤ c.z ∧ c.z ≤ hi ∧ (∀ n, c.a ≤ n → n ≤ c.z → (figs n : Int) = c.L) ∧ CellsP (c.z + 1) hi r
/-- cells that end just ahead of m -/
def CellsU (lo m : Int) (cs : List Cell) : Prop := ∀ hi r, CellsP m hi r → m ≤ hi + 1 → CellsP lo hi (cs ++ r)
theorem CellsU.nil (lo : Int) : CellsU lo lo [] := fun _ _ h _ => h
theorem CellsU.snoc {lo m : Int} {cs : List Cell} (h : CellsU lo m cs) {c : Cell} (h1 : c.a = m) (h2 : c.a ≤ c.z) (h3 : ∀ n, c.a ≤ n → n ≤ c.z → (figs n : Int) = c.L) : CellsU lo (c.z + 1) (cs ++ [c]) := fun hi r hr hm => by
  rw [List.append_assoc]
  refine h hi (c :: r) ⟨h1, h2, by omega, h3, hr⟩ (by omega)
theorem CellsU.done {lo m hi : Int} {cs : List Cell} (h : CellsU lo m cs) (e : m = hi + 1) : CellsP lo hi cs := by
  have := h hi [] (by show hi < m; omega) (by omega)
  rwa [List.append_nil] at this
def CellAt (H : Hp) (u : V) (c : Cell) : Prop := ∃ t, u = .ref t ∧ H t = some (.tup [.int c.L, .int c.a, .int c.z])
def spCells : Sp := fun vs H Q _ => ∃ (lo hi : Int), vs = [.int lo, .int hi] ∧ 0 ≤ lo ∧ hi.natAbs < 2 ^ 60 ∧ ∀ (b : Addr) (us : List V) (cs : List Cell) (H' : Hp), Same H H' → H b = none → H' b = some (.lst us) → us.length = cs.length → cs.length ≤ 70 → (∀ (i : Nat) (u : V) (c : Cell), us[i]? = some u → cs[i]? = some c → CellAt H' u c) → (CellsP lo hi cs) → Q (.ref b) H'
/-- the figures of a size -/
theorem figs_iff {n : Int} (h : 0 < n) (k : Nat) : (2 : Int) ^ k ≤ n → n < 2 ^ (k + 1) → figs n = k + 1 := fun h1 h2 => by
  show Builtin.Int.intBits n = k + 1
  unfold Builtin.Int.intBits
  rw [if_neg (by simp; omega)]
  have e1 : 2 ^ k ≤ n.natAbs := by
    have : ((2 ^ k : Nat) : Int) ≤ n := by rw [Int.natCast_pow]; exact h1
    omega
  have e2 : n.natAbs < 2 ^ (k + 1) := by
    have : n < ((2 ^ (k + 1) : Nat) : Int) := by rw [Int.natCast_pow]; exact h2
    omega
  have e3 : n.natAbs.log2 = k := (Nat.log2_eq_iff (by omega)).mpr ⟨e1, e2⟩
  omega
theorem figs_zero : figs 0 = 0 := by
  show Builtin.Int.intBits 0 = 0
  unfold Builtin.Int.intBits
  rfl
theorem figs_lt {n : Int} (h : 0 ≤ n) : n < 2 ^ figs n := by
  by_cases e : n = 0
  · rw [e, figs_zero]
    decide
  · have hn : n.natAbs ≠ 0 := by omega
    have e1 : figs n = n.natAbs.log2 + 1 := by
      show Builtin.Int.intBits n = _
      unfold Builtin.Int.intBits
      rw [if_neg (by simpa using e)]
    rw [e1]
    have := Nat.lt_log2_self (n := n.natAbs)
    have e2 : n < ((2 ^ (n.natAbs.log2 + 1) : Nat) : Int) := by omega
    rw [Int.natCast_pow] at e2
    exact e2
theorem figs_ge {n : Int} (h : 0 < n) : (2 : Int) ^ (figs n - 1) ≤ n ∧ 1 ≤ figs n := by
  have hn : n.natAbs ≠ 0 := by omega
  have e1 : figs n = n.natAbs.log2 + 1 := by
    show Builtin.Int.intBits n = _
    unfold Builtin.Int.intBits
    rw [if_neg (by simp; omega)]
  rw [e1, Nat.add_sub_cancel]
  have := Nat.log2_self_le hn
  have e2 : ((2 ^ n.natAbs.log2 : Nat) : Int) ≤ n := by omega
  rw [Int.natCast_pow] at e2
  exact ⟨e2, by omega⟩
/-- sizes from lo to the last of its many figures have as many -/
theorem figs_cell {lo n : Int} (h0 : 0 ≤ lo) (h1 : lo ≤ n) (h2 : n < 2 ^ figs lo) : figs n = figs lo := by
  by_cases e : lo = 0
  · rw [e, figs_zero] at h2
    have : (2 : Int) ^ 0 = 1 := rfl
    have en : n = 0 := by omega
    rw [e, en]
  · obtain ⟨g1, g2⟩ := figs_ge (n := lo) (by omega)
    have := figs_iff (n := n) (by omega) (figs lo - 1) (by omega) (by rw [show figs lo - 1 + 1 = figs lo by omega]; exact h2)
    omega
end OG
namespace OG
open PySem PySem.Spec PyProof.Rows L2
def spRowEnd : Sp := fun vs H Q _ => ∃ (S : Addr) (sts : List Stretch) (i : Nat), vs = [.ref S, .int i] ∧ StsAt H S sts ∧ i < sts.length ∧ ∀ v, ((i + 1 = sts.length ∧ v = .non) ∨ ∃ st, sts[i + 1]? = some st ∧ v = .int (st.1 - 1)) → Q v H
end OG
namespace OG
open PySem PySem.Spec PyProof.Rows L2
theorem pow2_le {i j : Nat} (h : i ≤ j) : (2 : Int) ^ i ≤ 2 ^ j := by
  have := Nat.pow_le_pow_right (n := 2) (by decide) h
  have e : ((2 ^ i : Nat) : Int) ≤ ((2 ^ j : Nat) : Int) := by omega
  rw [Int.natCast_pow, Int.natCast_pow] at e
  exact e
theorem figs_mono {a n : Int} (h0 : 0 ≤ a) (h : a ≤ n) : figs a ≤ figs n := by
  rcases Nat.lt_or_ge (figs n) (figs a) with z | z
  · have h1 := figs_lt (n := n) (by omega)
    rcases Int.lt_or_le 0 a with y | y
    · obtain ⟨g1, g2⟩ := figs_ge y
      have := pow2_le (i := figs n) (j := figs a - 1) (by omega)
      omega
    · rw [show a = 0 by omega, figs_zero] at z
      omega
  · exact z
theorem figs_le_of {n : Int} {k : Nat} (h0 : 0 ≤ n) (h : n < 2 ^ k) : figs n ≤ k := by
  rcases Nat.lt_or_ge k (figs n) with z | z
  · rcases Int.lt_or_le 0 n with y | y
    · obtain ⟨g1, g2⟩ := figs_ge y
      have := pow2_le (i := k) (j := figs n - 1) (by omega)
      omega
    · rw [show n = 0 by omega, figs_zero] at z
      omega
  · exact z
end OG

set_option Elab.async false
set_option linter.all false
set_option maxRecDepth 100000
set_option maxHeartbeats 4000000
namespace OG
open PySem PySem.Spec PyProof.Rows L2
/-- the powers where a size lies -/
def stPw : List Stretch → Int → Pw
  | [], _ => []
  | [st], _ => st.2
  | st :: st2 :: r, n => if n < st2.1 then st.2 else stPw (st2 :: r) n
structure StsOk (sts : List Stretch) : Prop where
  first : (sts.head?.map (·.1)) = some 0
  rises : (sts.map (·.1)).Pairwise (· < ·)
  short : sts.length ≤ 16
  pws : ∀ st ∈ sts, PwOk st.2 ∧ st.2.length ≤ 20
  small : ∀ st ∈ sts, st.1.natAbs < 2 ^ 59
theorem stPw_at : ∀ {sts : List Stretch} {n : Int} {i : Nat} {st : Stretch}, (sts.map (·.1)).Pairwise (· < ·) → sts[i]? = some st → st.1 ≤ n → (∀ st', sts[i + 1]? = some st' → n < st'.1) → stPw sts n = st.2
  | [], n, i, st, _, h, _, _ => by simp at h
  | [s0], n, 0, st, _, h, _, _ => by cases h; rfl
  | [s0], n, i + 1, st, _, h, _, _ => by simp at h
  | s0 :: s1 :: r, n, 0, st, _, h, h1, h2 => by
    cases h
    exact if_pos (h2 s1 rfl)
  | s0 :: s1 :: r, n, i + 1, st, hp, h, h1, h2 => by
    have hp2 := List.pairwise_cons.mp hp
    have hle : s1.1 ≤ st.1 := by
      cases i with
      | zero => cases h; exact Int.le_refl _
      | succ i =>
        have := (List.pairwise_cons.mp hp2.2).1 st.1 (List.mem_map.mpr ⟨st, List.mem_of_getElem? h, rfl⟩)
        exact Int.le_of_lt this
    show (if n < s1.1 then s0.2 else stPw (s1 :: r) n) = _
    rw [if_neg (by omega)]
    exact stPw_at (sts := s1 :: r) (i := i) hp2.2 h h1 h2
structure FCell where
  L : Int
  a : Int
  z : Int
  pw : Pw
def FcP (sts : List Stretch) (lo hi : Int) : List FCell → Prop
  | [] => hi < lo
  | c :: r => c.a = lo ∧ c.a ≤ c.z ∧ c.z ≤ hi ∧ (∀ n, c.a ≤ n → n ≤ c.z → (figs n : Int) = c.L ∧ stPw sts n = c.pw) ∧ (∃ st ∈ sts, c.pw = st.2) ∧ FcP sts (c.z + 1) hi r
def FcU (sts : List Stretch) (lo m : Int) (cs : List FCell) : Prop := ∀ hi r, FcP sts m hi r → m ≤ hi + 1 → FcP sts lo hi (cs ++ r)
theorem FcU.nil (sts : List Stretch) (lo : Int) : FcU sts lo lo [] := fun _ _ h _ => h
theorem FcU.snoc {sts : List Stretch} {lo m : Int} {cs : List FCell} (h : FcU sts lo m cs) {c : FCell} (h1 : c.a = m) (h2 : c.a ≤ c.z) (h3 : ∀ n, c.a ≤ n → n ≤ c.z → (figs n : Int) = c.L ∧ stPw sts n = c.pw) (h4 : ∃ st ∈ sts, c.pw = st.2) : FcU sts lo (c.z + 1) (cs ++ [c]) := fun hi r hr hm => by
  rw [List.append_assoc]
  exact h hi (c :: r) ⟨h1, h2, by omega, h3, h4, hr⟩ (by omega)
theorem FcU.done {sts : List Stretch} {lo m hi : Int} {cs : List FCell} (h : FcU sts lo m cs) (e : m = hi + 1) : FcP sts lo hi cs := by
  have := h hi [] (by show hi < m; omega) (by omega)
  rwa [List.append_nil] at this
/-- l holds the powers pw of one of the stretches -/
def LOf (H : Hp) (S : Addr) (sts : List Stretch) (l : Addr) (pw : Pw) : Prop := ∃ (us0 : List V) (i : Nat) (t0 : Addr) (st : Stretch), H S = some (.lst us0) ∧ us0[i]? = some (.ref t0) ∧ sts[i]? = some st ∧ H t0 = some (.tup [.int st.1, .ref l]) ∧ pw = st.2
theorem LOf.at {H : Hp} {S l : Addr} {sts : List Stretch} {pw : Pw} (h : LOf H S sts l pw) (hS : StsAt H S sts) : PwAt H l pw ∧ ∃ st ∈ sts, pw = st.2 := by
  obtain ⟨us0, i, t0, st, h1, h2, h3, h4, rfl⟩ := h
  obtain ⟨us, g1, g2, g3⟩ := hS
  have e : us = us0 := by
    rw [h1] at g1
    exact (HO.lst.inj (Option.some.inj g1)).symm
  subst e
  obtain ⟨t, l', e1, e2, e3⟩ := g3 i _ st h2 h3
  cases e1
  rw [h4] at e2
  cases e2
  exact ⟨e3, st, List.mem_of_getElem? h3, rfl⟩
def Fc0 (H : Hp) (S : Addr) (sts : List Stretch) (H' : Hp) (u : V) (c : FCell) : Prop := ∃ t l, u = .ref t ∧ H' t = some (.tup [.int c.L, .int c.a, .int c.z, .ref l]) ∧ LOf H S sts l c.pw
theorem Fc0.same {H H' H'' : Hp} {S : Addr} {sts : List Stretch} {u : V} {c : FCell} (h : Fc0 H S sts H' u c) (s : Same H' H'') : Fc0 H S sts H'' u c := by
  obtain ⟨t, l, e, h1, h2⟩ := h
  exact ⟨t, l, e, s _ _ h1, h2⟩
def FcsAt (H : Hp) (S : Addr) (sts : List Stretch) (H' : Hp) (us : List V) (cs : List FCell) : Prop := us.length = cs.length ∧ ∀ (i : Nat) (u : V) (c : FCell), us[i]? = some u → cs[i]? = some c → Fc0 H S sts H' u c
/-- falling_cells(stretches, high): from the last one down -/
def spFall : Sp := fun vs H Q _ => ∃ (S : Addr) (sts : List Stretch) (hi : Int), vs = [.ref S, .int hi] ∧ StsAt H S sts ∧ StsOk sts ∧ hi.natAbs < 2 ^ 60 ∧ (∀ st ∈ sts, st.1 ≤ hi + 1) ∧
  ∀ (b : Addr) (us : List V) (cs : List FCell) (H' : Hp), Same H H' → H b = none → H' b = some (.lst us.reverse) → FcsAt H S sts H' us cs → cs.length ≤ 2000 → FcP sts 0 hi cs → Q (.ref b) H'
end OG

set_option Elab.async false
set_option linter.all false
set_option maxRecDepth 100000
set_option maxHeartbeats 4000000
namespace OG
open PySem PySem.Spec PyProof.Rows L2
/-! ### noughts -/
theorem same_all {f : Int → Int} (h : ∀ x, f (x + 1) = f x) (x y : Int) : f x = f y := by
  have up : ∀ (n : Nat) (z : Int), f (z + n) = f z := fun n => by
    induction n with
    | zero => intro z; show f (z + 0) = f z; rw [Int.add_zero]
    | succ n ih =>
      intro z
      have e : z + ((n + 1 : Nat) : Int) = z + n + 1 := by omega
      rw [e, h, ih]
  rcases Int.le_total x y with c | c
  · have := up (y - x).toNat x
    rw [show x + ((y - x).toNat : Int) = y by omega] at this
    exact this.symm
  · have := up (x - y).toNat y
    rw [show y + ((x - y).toNat : Int) = x by omega] at this
    exact this
theorem noughts {x0 : Int} : ∀ (m : Nat) {p : List Int}, p.length ≤ m → (∀ i : Nat, i < m → ev p (x0 + i) = 0) → ∀ x, ev p x = 0
  | 0, p, h, _, x => by
    rw [List.eq_nil_of_length_eq_zero (by omega : p.length = 0)]
    rfl
  | m + 1, p, h, hz, x => by
    by_cases e : p = []
    · rw [e]
      rfl
    · have l := dif_len e
      have ih := noughts (x0 := x0) m (p := dif p) (by omega) (fun i hi => by
        rw [dif_ev]
        have a := hz (i + 1) (by omega)
        have b := hz i (by omega)
        rw [show x0 + ((i + 1 : Nat) : Int) = x0 + i + 1 by omega] at a
        rw [a, b]
        rfl)
      have c := same_all (f := ev p) (fun y => by
        have := ih y
        rw [dif_ev] at this
        omega) x x0
      rw [c]
      have := hz 0 (by omega)
      rwa [show x0 + ((0 : Nat) : Int) = x0 by omega] at this
/-! ### the greatest power tells the sign -/
def wt : Pw → Int → Int
  | [], _ => 0
  | p :: r, L => ((ev p.2 L).natAbs : Int) + wt r L
theorem wt_pos : ∀ (r : Pw) (L : Int), 0 ≤ wt r L
  | [], _ => Int.le_refl _
  | p :: r, L => by
    have := wt_pos r L
    show 0 ≤ ((ev p.2 L).natAbs : Int) + wt r L
    omega
theorem pow_mono {n : Int} (hn : 1 ≤ n) {i j : Nat} (h : i ≤ j) : n ^ i ≤ n ^ j := by
  induction j with
  | zero =>
    rw [show i = 0 by omega]
    exact Int.le_refl _
  | succ j ih =>
    by_cases e : i = j + 1
    · rw [e]
      exact Int.le_refl _
    · have h1 := ih (by omega)
      have h2 : n ^ j * 1 ≤ n ^ j * n := Int.mul_le_mul_of_nonneg_left hn (Int.pow_nonneg (by omega))
      rw [Int.mul_one] at h2
      rw [Int.pow_succ]
      exact Int.le_trans h1 h2
theorem rest_le {L n : Int} (hn : 1 ≤ n) (q : Nat) : ∀ (r : Pw), (∀ p ∈ r, p.1 ≤ q) → ((pwEv r L n).natAbs : Int) ≤ wt r L * n ^ q
  | [], _ => by
    show ((0 : Int).natAbs : Int) ≤ 0 * n ^ q
    rw [Int.zero_mul]
    exact Int.le_refl _
  | p :: r, h => by
    have ih := rest_le (L := L) hn q r fun x hx => h x (List.mem_cons_of_mem _ hx)
    have hp := pow_mono hn (h p List.mem_cons_self)
    have np : (0 : Int) ≤ n ^ p.1 := Int.pow_nonneg (by omega)
    have a1 : ((ev p.2 L * n ^ p.1).natAbs : Int) = ((ev p.2 L).natAbs : Int) * n ^ p.1 := by
      rw [Int.natAbs_mul, Int.natCast_mul, Int.natAbs_of_nonneg np]
    have a2 : ((ev p.2 L).natAbs : Int) * n ^ p.1 ≤ ((ev p.2 L).natAbs : Int) * n ^ q := Int.mul_le_mul_of_nonneg_left hp (by omega)
    have a3 := Int.natAbs_add_le (ev p.2 L * n ^ p.1) (pwEv r L n)
    show (((ev p.2 L * n ^ p.1 + pwEv r L n)).natAbs : Int) ≤ (((ev p.2 L).natAbs : Int) + wt r L) * n ^ q
    rw [Int.add_mul]
    omega
theorem lead_sign {p0 : Nat × List Int} {r : Pw} {L n : Int} (hf : (p0 :: r).Pairwise fun a b => b.1 < a.1) (hn : 1 ≤ n) (hw : wt r L < n) (hc : ev p0.2 L ≠ 0) : sgX (pwEv (p0 :: r) L n) = sgX (ev p0.2 L) := by
  have h0 := (List.pairwise_cons.mp hf).1
  show sgX (ev p0.2 L * n ^ p0.1 + pwEv r L n) = _
  have key : ((pwEv r L n).natAbs : Int) < n ^ p0.1 := by
    cases hp : p0.1 with
    | zero =>
      have e : r = [] := by
        cases r with
        | nil => rfl
        | cons x t =>
          have := h0 x List.mem_cons_self
          omega
      rw [e]
      show ((0 : Int).natAbs : Int) < n ^ 0
      rw [Int.pow_zero]
      decide
    | succ q =>
      have := rest_le (L := L) hn q r (fun p hp' => by have := h0 p hp'; omega)
      have pn : (0 : Int) < n ^ q := Int.pow_pos (by omega)
      have : wt r L * n ^ q < n * n ^ q := Int.mul_lt_mul_of_pos_right hw pn
      rw [Int.pow_succ, Int.mul_comm (n ^ q) n]
      omega
  have pn : (0 : Int) < n ^ p0.1 := Int.pow_pos (by omega)
  rcases sgX_cases (ev p0.2 L) with ⟨a1, a2⟩ | ⟨a1, a2⟩ | ⟨a1, a2⟩
  · exact absurd a1 hc
  · rw [a2, sgX_one]
    have : 1 * n ^ p0.1 ≤ ev p0.2 L * n ^ p0.1 := Int.mul_le_mul_of_nonneg_right (by omega) (Int.le_of_lt pn)
    omega
  · rw [a2, sgX_neg1]
    have : ev p0.2 L * n ^ p0.1 ≤ (-1) * n ^ p0.1 := Int.mul_le_mul_of_nonneg_right (by omega) (Int.le_of_lt pn)
    omega
/-! ### bounds of the differences -/
def sumA : List Int → Nat
  | [] => 0
  | a :: r => a.natAbs + sumA r
theorem syn_sum : ∀ (p : List Int), ∀ b ∈ syn 1 p, b.natAbs ≤ sumA p
  | [], b, h => by cases h
  | a :: r, b, h => by
    have ih := syn_sum r
    unfold syn at h
    cases e : syn 1 r with
    | nil =>
      rw [e] at h
      rw [List.mem_singleton.mp h]
      show a.natAbs ≤ a.natAbs + sumA r
      omega
    | cons d t =>
      rw [e] at h ih
      have hd := ih d List.mem_cons_self
      rcases List.mem_cons.mp h with rfl | h
      · have := Int.natAbs_add_le a (1 * d)
        rw [Int.one_mul] at this ⊢
        show (a + d).natAbs ≤ a.natAbs + sumA r
        omega
      · have := ih b h
        show b.natAbs ≤ a.natAbs + sumA r
        omega
theorem sumA_le {B : Nat} : ∀ {p : List Int}, Cf B p → sumA p ≤ p.length * 2 ^ B
  | [], _ => Nat.zero_le _
  | a :: r, h => by
    have h1 := h a List.mem_cons_self
    have h2 := sumA_le (p := r) fun c hc => h c (List.mem_cons_of_mem _ hc)
    show a.natAbs + sumA r ≤ (r.length + 1) * 2 ^ B
    rw [Nat.add_mul, Nat.one_mul]
    omega
theorem syn_cf {B : Nat} {p : List Int} (h : Cf B p) (hl : p.length ≤ 15) : Cf (B + 4) (syn 1 p) := fun b hb => by
  have h1 := syn_sum p b hb
  have h2 := sumA_le h
  have h3 : p.length * 2 ^ B ≤ 15 * 2 ^ B := Nat.mul_le_mul_right _ hl
  rw [Nat.pow_add]
  have : 0 < 2 ^ B := Nat.pow_pos (by decide)
  have e : (2 : Nat) ^ 4 = 16 := by decide
  omega
theorem tay_cf : ∀ (n : Nat) {B : Nat} {p : List Int}, Cf B p → p.length ≤ 15 → Cf (B + 4 * n) (tay 1 n p)
  | 0, B, p, _, _ => fun b hb => by cases hb
  | n + 1, B, p, h, hl => by
    have h1 := syn_cf h hl
    have l := syn_len 1 p
    unfold tay
    cases e : syn 1 p with
    | nil => exact fun b hb => by cases hb
    | cons d t =>
      rw [e] at h1 l
      have l2 : t.length + 1 = p.length := l
      have ih := tay_cf n (B := B + 4) (p := t) (fun c hc => h1 c (List.mem_cons_of_mem _ hc)) (by omega)
      intro b hb
      rcases List.mem_cons.mp hb with rfl | hb
      · exact Nat.lt_of_lt_of_le (h1 b List.mem_cons_self) (Nat.pow_le_pow_right (by decide) (by omega))
      · have := ih b hb
        rwa [show B + 4 + 4 * n = B + 4 * (n + 1) by omega] at this
theorem dif_cf {B : Nat} {p : List Int} (h : Cf B p) (hl : p.length ≤ 10) : Cf (B + 41) (dif p) := fun c hc => by
  have h1 := tay_cf p.length h (by omega)
  have hm := trim_mem hc
  unfold subL at hm
  obtain ⟨i, hi, e⟩ := List.mem_iff_getElem.mp hm
  rw [List.getElem_zipWith] at e
  have a1 := h _ (List.getElem_mem (l := p) (n := i) (by rw [List.length_zipWith] at hi; omega))
  have a2 := h1 _ (List.getElem_mem (l := tay 1 p.length p) (n := i) (by rw [List.length_zipWith] at hi; omega))
  have b1 := Nat.lt_of_lt_of_le a1 (Nat.pow_le_pow_right (n := 2) (by decide) (show B ≤ B + 40 by omega))
  have b2 := Nat.lt_of_lt_of_le a2 (Nat.pow_le_pow_right (n := 2) (by decide) (show B + 4 * p.length ≤ B + 40 by omega))
  have e2 : (2 : Nat) ^ (B + 41) = 2 ^ (B + 40) * 2 := by rw [← Nat.pow_succ]
  rw [← e]
  omega
theorem difk_cf {B : Nat} {p : List Int} (h : Cf B p) (hl : p.length ≤ 10) : ∀ k : Nat, k ≤ 10 → Cf (B + 41 * k) (difk k p)
  | 0, _ => h
  | k + 1, hk => by
    have ih := difk_cf h hl k (by omega)
    have l : (difk k p).length ≤ 10 := by
      rcases difk_len k p with z | z
      · omega
      · rw [z]
        exact Nat.zero_le _
    have := dif_cf ih l
    rwa [show B + 41 * k + 41 = B + 41 * (k + 1) by omega] at this
theorem difk_pin {B C : Nat} {p : List Int} {lo hi : Int} (h : Cf B p) (hl : p.length ≤ 10) (h1 : lo.natAbs < 2 ^ C) (h2 : hi.natAbs < 2 ^ C) (hb : 0 < B) (hbc : B + 11 * (C + 1) ≤ 300000) (k : Nat) : PIn (difk k p) lo hi := by
  have l : (difk k p).length ≤ 10 := by
    rcases difk_len k p with z | z
    · omega
    · rw [z]
      exact Nat.zero_le _
  have lm : ((difk k p).length + 1) * (C + 1) ≤ 11 * (C + 1) := Nat.mul_le_mul_right _ (by omega)
  refine ⟨by omega, B + 410, C, ?_, h1, h2, by omega, by omega⟩
  by_cases hk : k ≤ 10
  · intro c hc
    exact Nat.lt_of_lt_of_le (difk_cf h hl k hk c hc) (Nat.pow_le_pow_right (by decide) (by omega))
  · have : difk k p = [] := by
      rcases difk_len k p with z | z
      · omega
      · exact z
    rw [this]
    exact fun c hc => by cases hc
/-! ### promises -/
def Lst (p : List Int) (lo hi : Int) (v : V) (s : Int) : Prop := (v = .non ∧ ∀ n, lo ≤ n → n ≤ hi → sgX (ev p n) = s) ∨ ∃ m : Int, v = .int m ∧ lo ≤ m ∧ m ≤ hi ∧ sgX (ev p m) ≠ s ∧ ∀ n, m < n → n ≤ hi → sgX (ev p n) = s
def spUnlike : Sp := fun vs H Q _ => ∃ (a : Addr) (p : List Int) (lo hi : Int), vs = [.ref a, .int lo, .int hi] ∧ LAt H a p ∧ lo ≤ hi ∧ PIn p lo hi ∧ lo.natAbs < 2 ^ 60 ∧ hi.natAbs < 2 ^ 60 ∧ p.length ≤ 900 ∧ ∀ v, Lst p lo hi v 0 → Q v H
def spSizes : Sp := fun vs H Q _ => ∃ (a : Addr) (p : List Int) (lo hi s : Int), vs = [.ref a, .int lo, .int hi, .int s] ∧ LAt H a p ∧ lo ≤ hi ∧ p.length ≤ 10 ∧ (∀ k : Nat, PIn (difk k p) lo hi) ∧
  ∀ (t lr : Addr) (us : List V) (v : V) (H' : Hp), Same H H' → H lr = none → H' t = some (.tup [.ref lr, v]) → H' lr = some (.lst us) → us.length ≤ 3 ^ (p.length + 1) → Lst p lo hi v s → Q (.ref t) H'
end OG

set_option Elab.async false
set_option linter.all false
set_option maxRecDepth 100000
set_option maxHeartbeats 4000000
namespace OG
open PySem PySem.Spec PyProof.Rows L2
def absL (p : List Int) : List Int := p.map fun c => (c.natAbs : Int)
def wtA : Pw → Int → Int
  | [], _ => 0
  | p :: r, L => ev (absL p.2) L + wtA r L
theorem wtA_take {pw : Pw} {i : Nat} {p : Nat × List Int} (L : Int) (h : pw[i]? = some p) : wtA (pw.take (i + 1)) L = wtA (pw.take i) L + ev (absL p.2) L := by
  have app : ∀ (a b : Pw), wtA (a ++ b) L = wtA a L + wtA b L := fun a b => by
    induction a with
    | nil => show wtA b L = 0 + wtA b L; omega
    | cons x r ih =>
      show ev (absL x.2) L + wtA (r ++ b) L = ev (absL x.2) L + wtA r L + wtA b L
      rw [ih]
      omega
  rw [List.take_add_one, h, app]
  show _ + (ev (absL p.2) L + 0) = _
  omega
theorem max2_int (a b : Int) : nuMax2 (.int a) (.int b) = some (.int (if a < b then b else a)) := by
  show (some (decide (a < b))).map (fun c => if c = true then V.int b else V.int a) = _
  by_cases h : a < b
  · rw [decide_eq_true h, if_pos h]
    rfl
  · rw [decide_eq_false h, if_neg h]
    rfl
theorem max3_int (a b c : Int) : nuMax3 (.int a) (.int b) (.int c) = some (.int (if (if a < b then b else a) < c then c else (if a < b then b else a))) := by
  unfold nuMax3
  rw [max2_int]
  exact max2_int _ _
/-- all polynomials of the figures are one part, none nought -/
def Flat1 (pw : Pw) : Prop := ∀ p ∈ pw, ∃ c : Int, p.2 = [c] ∧ c ≠ 0 ∧ c.natAbs < 2 ^ 20
theorem ev_one (c L : Int) : ev [c] L = c := by
  show c + L * 0 = c
  omega
theorem Flat1.wt {L : Int} : ∀ {r : Pw}, Flat1 r → wtA r L = OG.wt r L ∧ wtA r L ≤ r.length * 2 ^ 20
  | [], _ => ⟨rfl, Int.le_refl _⟩
  | p :: r, h => by
    obtain ⟨c, e, _, hb⟩ := h p List.mem_cons_self
    obtain ⟨a1, a2⟩ := Flat1.wt (L := L) (r := r) fun x hx => h x (List.mem_cons_of_mem _ hx)
    have e1 : ev (absL p.2) L = (c.natAbs : Int) := by
      rw [e]
      exact ev_one _ _
    have e2 : ev p.2 L = c := by
      rw [e]
      exact ev_one _ _
    constructor
    · show ev (absL p.2) L + wtA r L = ((ev p.2 L).natAbs : Int) + OG.wt r L
      rw [e1, e2, a1]
    · show ev (absL p.2) L + wtA r L ≤ ((r.length + 1 : Nat) : Int) * 2 ^ 20
      rw [e1]
      have e20 : (2 : Int) ^ 20 = 1048576 := by decide
      have e20n : (2 : Nat) ^ 20 = 1048576 := by decide
      rw [e20] at a2 ⊢
      rw [e20n] at hb
      omega
theorem Flat1.pok {pw : Pw} (h : Flat1 pw) {L : Int} (hL : L.natAbs < 2 ^ 70) : ∀ p ∈ pw, POk p.2 L ∧ POk (absL p.2) L ∧ (ev p.2 L).natAbs < 2 ^ 20 := fun p hp => by
  obtain ⟨c, e, _, hb⟩ := h p hp
  refine ⟨⟨by rw [e]; show 1 ≤ 1000; decide, 20, 70, fun x hx => ?_, hL, by decide, by rw [e]; show 20 + (1 + 1) * (70 + 1) ≤ 400000; decide⟩, ⟨by rw [e]; show 1 ≤ 1000; decide, 20, 70, fun x hx => ?_, hL, by decide, by rw [e]; show 20 + (1 + 1) * (70 + 1) ≤ 400000; decide⟩, by rw [e, ev_one]; exact hb⟩
  · rw [e] at hx
    rw [List.mem_singleton.mp hx]
    exact hb
  · rw [e] at hx
    rw [List.mem_singleton.mp (show x ∈ [(c.natAbs : Int)] from hx)]
    exact hb
def spWeight : Sp := fun vs H Q _ => ∃ (l : Addr) (pw : Pw) (L : Int), vs = [.ref l, .int L] ∧ PwAt H l pw ∧ pw ≠ [] ∧ pw.length ≤ 20 ∧ (∀ p ∈ pw, POk (absL p.2) L) ∧ ∀ H', Same H H' → Q (.int (wtA (pw.drop 1) L)) H'
def spLeast : Sp := fun vs H Q _ => ∃ (v : V) (st : Stretch), vs = [v] ∧ StAt H v st ∧ st.2 ≠ [] ∧ st.2.length ≤ 20 ∧ Flat1 st.2 ∧ 0 ≤ st.1 ∧ ∀ H', Same H H' → Q (.int ((figs st.1 : Int) + 1)) H'
def spMayLow : Sp := fun vs H Q _ => ∃ (v : V) (st : Stretch) (f : Int), vs = [v, .int f] ∧ StAt H v st ∧ st.2 ≠ [] ∧ st.2.length ≤ 20 ∧ Flat1 st.2 ∧ 0 ≤ st.1 ∧ f.natAbs < 2 ^ 70 ∧ ∀ H', Same H H' → Q (.bl (decide ((figs st.1 : Int) + 1 ≤ f) && decide ((figs (wtA (st.2.drop 1) f) : Int) < f))) H'
def spFirstLow : Sp := fun vs H Q _ => ∃ (v : V) (st : Stretch), vs = [v] ∧ StAt H v st ∧ st.2 ≠ [] ∧ st.2.length ≤ 20 ∧ Flat1 st.2 ∧ 0 ≤ st.1 ∧ st.1 < 2 ^ 50 ∧ ∀ (low : Nat) (H' : Hp), Same H H' → figs st.1 + 1 ≤ low → low ≤ 52 → wtA (st.2.drop 1) 0 < 2 ^ (low - 1) → Q (.int low) H'
end OG
namespace OG
open PySem PySem.Spec PyProof.Rows L2
theorem Flat1.const {r : Pw} (h : Flat1 r) (L L' : Int) : wtA r L = wtA r L' := by
  induction r with
  | nil => rfl
  | cons p r ih =>
    obtain ⟨c, e, _⟩ := h p List.mem_cons_self
    show ev (absL p.2) L + wtA r L = ev (absL p.2) L' + wtA r L'
    rw [ih fun x hx => h x (List.mem_cons_of_mem _ hx), e]
    show ev [(c.natAbs : Int)] L + _ = ev [(c.natAbs : Int)] L' + _
    rw [ev_one, ev_one]
theorem FcP.get {sts : List Stretch} : ∀ {cs : List FCell} {lo hi : Int} {k : Nat} {c : FCell}, FcP sts lo hi cs → cs[k]? = some c → c.a ≤ c.z ∧ lo ≤ c.a ∧ c.z ≤ hi ∧ (∀ n, c.a ≤ n → n ≤ c.z → (figs n : Int) = c.L ∧ stPw sts n = c.pw) ∧ (∃ st ∈ sts, c.pw = st.2) ∧ (k = 0 → c.a = lo) ∧ (k + 1 = cs.length → c.z = hi) ∧ ∀ c', cs[k + 1]? = some c' → c.z + 1 = c'.a
  | [], _, _, k, c, _, e => by simp at e
  | d :: r, lo, hi, 0, c, h, e => by
    cases e
    obtain ⟨h1, h2, h3, h4, h5, h6⟩ := h
    refine ⟨h2, by omega, h3, h4, h5, fun _ => h1, fun z => ?_, fun c' hc' => ?_⟩
    · cases r with
      | nil =>
        have : hi < d.z + 1 := h6
        omega
      | cons _ _ => simp at z
    · cases r with
      | nil => simp at hc'
      | cons x t =>
        cases hc'
        exact h6.1.symm
  | d :: r, lo, hi, k + 1, c, h, e => by
    obtain ⟨h1, h2, h3, h4, h5, h6⟩ := h
    obtain ⟨g1, g2, g3, g4, g5, g6, g7, g8⟩ := FcP.get (cs := r) (k := k) h6 e
    refine ⟨g1, by omega, g3, g4, g5, fun z => by omega, fun z => g7 ?_, g8⟩
    have z' : k + 1 + 1 = r.length + 1 := z
    omega
/-- the difference at a size -/
def dfc (sts : List Stretch) (n : Int) : Int := pwEv (stPw sts n) (figs n) n
def Settled (G : Int → Int) (s size : Int) : Prop := 0 ≤ size ∧ (∀ n, size ≤ n → sgX (G n) = s) ∧ (0 < size → sgX (G (size - 1)) ≠ s)
structure StsK (sts : List Stretch) : Prop where
  ok : StsOk sts
  flat : ∀ st ∈ sts, Flat1 st.2
  three : ∀ st ∈ sts, ∀ p ∈ st.2, p.1 ≤ 3
  pos : ∀ st ∈ sts, 0 ≤ st.1 ∧ st.1 < 2 ^ 50
def spFigRows : Sp := fun vs H Q _ => ∃ (l : Addr) (p0 : Nat × List Int) (r : Pw) (c low s : Int), vs = [.ref l, .int low, .int s] ∧ PwAt H l (p0 :: r) ∧ p0.2 = [c] ∧ c.natAbs < 2 ^ 20 ∧ sgX c = s ∧ 1 ≤ low ∧ low ≤ 52 ∧ ∀ (t lr : Addr) (us : List V) (H' : Hp), Same H H' → H lr = none → H' t = some (.tup [.ref lr, .non]) → H' lr = some (.lst us) → us.length = 1 → Q (.ref t) H'
def spNear : Sp := fun vs H Q _ => ∃ f : Int, vs = [.int f] ∧ f ≤ 2000 ∧ Q .non H
def spSetRows : Sp := fun vs H Q _ => ∃ (S : Addr) (sts ini : List Stretch) (sl : Stretch) (p0 : Nat × List Int) (r : Pw) (c s : Int), vs = [.ref S, .int s] ∧ StsAt H S sts ∧ StsK sts ∧ sts = ini ++ [sl] ∧ sl.2 = p0 :: r ∧ p0.2 = [c] ∧ sgX c = s ∧ ∀ (t lr : Addr) (us : List V) (size : Int) (H' : Hp), Same H H' → H' t = some (.tup [.int size, .ref lr]) → H' lr = some (.lst us) → Settled (dfc sts) s size → Q (.ref t) H'
def spAlike : Sp := fun vs H Q _ => ∃ (S : Addr) (sts ini : List Stretch) (sl : Stretch), vs = [.ref S] ∧ StsAt H S sts ∧ StsK sts ∧ sts = ini ++ [sl] ∧ sl.2 = [] ∧ ∀ (size : Int) (H' : Hp), Same H H' → Settled (dfc sts) 0 size → Q (.int size) H'
/-- from the last stretch on -/
theorem stPw_last {ini : List Stretch} {sl : Stretch} (h : ((ini ++ [sl]).map (·.1)).Pairwise (· < ·)) {n : Int} (hn : sl.1 ≤ n) : stPw (ini ++ [sl]) n = sl.2 :=
  stPw_at (i := ini.length) h (by simp) hn fun st' hst' => by
    have := (List.getElem?_eq_some_iff.mp hst').1
    rw [List.length_append] at this
    have : ini.length + 1 < ini.length + 1 := this
    omega
end OG
namespace OG
open PySem PySem.Spec PyProof.Rows L2
theorem LOf.base {H H2 : Hp} {S l : Addr} {sts : List Stretch} {pw : Pw} (h : LOf H2 S sts l pw) (hS : StsAt H S sts) (s : Same H H2) : PwAt H l pw := by
  obtain ⟨us0, i, t0, st, h1, h2, h3, h4, rfl⟩ := h
  obtain ⟨us, g1, g2, g3⟩ := hS
  have e : us = us0 := by
    have := s _ _ g1
    rw [h1] at this
    exact (HO.lst.inj (Option.some.inj this)).symm
  subst e
  obtain ⟨t, l', e1, e2, e3⟩ := g3 i _ st h2 h3
  cases e1
  have := s _ _ e2
  rw [h4] at this
  cases this
  exact e3
end OG

set_option Elab.async false
set_option linter.all false
set_option maxRecDepth 100000
set_option maxHeartbeats 4000000
namespace OG
open PySem PySem.Spec PyProof.Rows L2
/-- the difference of two sums at a size, by its sign: crosswise -/
def dif2 (rs1 rs2 : List Row) (n : Int) : Int := (worthOf rs1 n).1 * (worthOf rs2 n).2 - (worthOf rs2 n).1 * (worthOf rs1 n).2
/-- sums that k17 draws: no figures, small parts -/
structure RowsK (rs : List Row) : Prop where
  ok : RowsOk 3 0 20 rs
def wordOf (s : Int) : Str := if s = 0 then "alike" else if 0 < s then "more" else "less"
def spStretches : Sp := fun vs H Q _ => ∃ (S1 : Addr) (rs1 : List Row) (ls1 : List Addr) (S2 : Addr) (rs2 : List Row) (ls2 : List Addr), vs = [.ref S1, .ref S2] ∧ SumsAt H S1 rs1 ls1 ∧ SumsAt H S2 rs2 ls2 ∧ RowsK rs1 ∧ RowsK rs2 ∧
  ∀ (S : Addr) (sts : List Stretch) (D : Int) (H' : Hp), Same H H' → StsAt H' S sts → StsK sts → 0 < D → (∀ n, 0 ≤ n → sgX (dif2 rs1 rs2 n) = sgX (dfc sts n)) → Q (.ref S) H'
def spSettled : Sp := fun vs H Q _ => ∃ (S1 : Addr) (rs1 : List Row) (ls1 : List Addr) (S2 : Addr) (rs2 : List Row) (ls2 : List Addr), vs = [.ref S1, .ref S2] ∧ SumsAt H S1 rs1 ls1 ∧ SumsAt H S2 rs2 ls2 ∧ RowsK rs1 ∧ RowsK rs2 ∧
  ∀ (t : Addr) (s size : Int) (v : V) (H' : Hp), Same H H' → H' t = some (.tup [.str (wordOf s), .int size, v]) → Settled (fun n => dif2 rs1 rs2 n) s size → Q (.ref t) H'
def spCompared : Sp := fun vs H Q _ => ∃ (S1 : Addr) (rs1 : List Row) (ls1 : List Addr) (S2 : Addr) (rs2 : List Row) (ls2 : List Addr), vs = [.ref S1, .ref S2] ∧ SumsAt H S1 rs1 ls1 ∧ SumsAt H S2 rs2 ls2 ∧ RowsK rs1 ∧ RowsK rs2 ∧
  ∀ (t : Addr) (s size : Int) (H' : Hp), Same H H' → H' t = some (.tup [.str (wordOf s), .int size]) → Settled (fun n => dif2 rs1 rs2 n) s size → Q (.ref t) H'
end OG

set_option Elab.async false
set_option linter.all false
set_option maxRecDepth 100000
set_option maxHeartbeats 4000000
namespace OG
open PySem PySem.Spec PyProof.Rows L2
/-! ### the difference of two sums without figures, whose unders are 1 or 2 -/
def Low2 (t : Term) : Prop := t.1.2 = 0 ∧ (t.2.2 = 1 ∨ t.2.2 = 2)
def v2 (o : Int × Int) : Int := o.1 * (2 / o.2)
def V2 : List Term → Int → Int
  | [], _ => 0
  | t :: r, n => v2 t.2 * n ^ t.1.1.toNat + V2 r n
theorem sgX_mul {k x : Int} (h : 0 < k) : sgX (k * x) = sgX x := by
  rcases sgX_cases x with ⟨a1, a2⟩ | ⟨a1, a2⟩ | ⟨a1, a2⟩
  · rw [a1, Int.mul_zero]
  · rw [a2, sgX_one]
    exact Int.mul_pos h a1
  · rw [a2, sgX_neg1]
    have : 0 < k * (-x) := Int.mul_pos h (by omega)
    rw [Int.mul_neg] at this
    omega
theorem fold_V2 (n : Int) : ∀ (ts : List Term) (acc : Int × Int) (W : Int), (∀ t ∈ ts, Low2 t) → 0 < acc.2 → acc.1 * 2 = W * acc.2 → (ts.foldl (addT n) acc).1 * 2 = (W + V2 ts n) * (ts.foldl (addT n) acc).2 ∧ 0 < (ts.foldl (addT n) acc).2
  | [], acc, W, _, h0, h => ⟨by show acc.1 * 2 = (W + 0) * acc.2; rw [Int.add_zero]; exact h, h0⟩
  | t :: r, acc, W, ht, h0, h => by
    obtain ⟨f0, hu⟩ := ht t List.mem_cons_self
    have hup : 0 < t.2.2 := by omega
    have h22 : (2 / t.2.2) * t.2.2 = 2 := by
      rcases hu with e | e <;> rw [e] <;> decide
    have hm : moreOf n t = t.2.1 * n ^ t.1.1.toNat := by
      unfold moreOf
      rw [f0]
      show t.2.1 * n ^ t.1.1.toNat * (figs n : Int) ^ 0 = _
      rw [Int.pow_zero, Int.mul_one]
    have st : (addT n acc t).1 * 2 = (W + v2 t.2 * n ^ t.1.1.toNat) * (addT n acc t).2 := by
      show (acc.1 * t.2.2 + moreOf n t * acc.2) * 2 = (W + t.2.1 * (2 / t.2.2) * n ^ t.1.1.toNat) * (acc.2 * t.2.2)
      rw [hm]
      generalize n ^ t.1.1.toNat = N
      generalize hq : 2 / t.2.2 = q at h22
      have e1 : (W + t.2.1 * q * N) * (acc.2 * t.2.2) = (W * acc.2) * t.2.2 + t.2.1 * N * acc.2 * (q * t.2.2) := by grind
      rw [e1, ← h, h22]
      grind
    have := fold_V2 n r (addT n acc t) _ (fun x hx => ht x (List.mem_cons_of_mem _ hx)) (Int.mul_pos h0 hup) st
    rw [Int.add_assoc] at this
    exact this
theorem sum_V2 {n : Int} {ts : List Term} (h : ∀ t ∈ ts, Low2 t) : (sumUp n ts).1 * 2 = V2 ts n * (sumUp n ts).2 ∧ 0 < (sumUp n ts).2 := by
  have := fold_V2 n ts (0, 1) 0 h (by decide) (by decide)
  rw [Int.zero_add] at this
  exact this
theorem dif2_sign {rs1 rs2 : List Row} {n : Int} (h1 : ∀ t ∈ rowTs rs1 n, Low2 t) (h2 : ∀ t ∈ rowTs rs2 n, Low2 t) : sgX (dif2 rs1 rs2 n) = sgX (V2 (rowTs rs1 n) n - V2 (rowTs rs2 n) n) := by
  obtain ⟨a1, a2⟩ := sum_V2 (n := n) h1
  obtain ⟨b1, b2⟩ := sum_V2 (n := n) h2
  unfold dif2 worthOf
  generalize sumUp n (rowTs rs1 n) = X at a1 a2
  generalize sumUp n (rowTs rs2 n) = Y at b1 b2
  generalize V2 (rowTs rs1 n) n = v at a1
  generalize V2 (rowTs rs2 n) n = u at b1
  have c1 := low_cross (o := X.1) (u := X.2) (by omega)
  have c2 := low_cross (o := Y.1) (u := Y.2) (by omega)
  have p1 := (low_facts (o := X.1) (u := X.2) (by omega)).2.2.2.2
  have p2 := (low_facts (o := Y.1) (u := Y.2) (by omega)).2.2.2.2
  generalize lowOf X.1 X.2 = x at c1 p1
  generalize lowOf Y.1 Y.2 = y at c2 p2
  have k : 0 < X.2 * Y.2 := Int.mul_pos a2 b2
  have k2 : 0 < x.2 * y.2 := Int.mul_pos (by omega) (by omega)
  have e : (2 * (X.2 * Y.2)) * (x.1 * y.2 - y.1 * x.2) = ((x.2 * y.2) * (X.2 * Y.2)) * (v - u) := by grind
  have l := sgX_mul (k := 2 * (X.2 * Y.2)) (x := x.1 * y.2 - y.1 * x.2) (by omega)
  rw [← l, e]
  exact sgX_mul (Int.mul_pos k2 k)
/-! a part less another -/
theorem less_part {o p : Int × Int} (ho : o.2 = 1 ∨ o.2 = 2) (hp : p.2 = 1 ∨ p.2 = 2) : let d := lowOf (o.1 * p.2 + (-p.1) * o.2) (o.2 * p.2); (d.2 = 1 ∨ d.2 = 2) ∧ v2 d = v2 o - v2 p ∧ (d = (0, 1) ↔ v2 d = 0) := by
  intro d
  have hU : 1 ≤ o.2 * p.2 := by
    rcases ho with e | e <;> rcases hp with f | f <;> rw [e, f] <;> decide
  obtain ⟨g0, a1, a2, a3, a4⟩ := low_facts (o := o.1 * p.2 + (-p.1) * o.2) hU
  have cr := low_cross (o := o.1 * p.2 + (-p.1) * o.2) hU
  have hd : d.2 ∣ 2 := by
    refine cop_dvd a3 ⟨v2 o - v2 p, ?_⟩
    show (lowOf _ _).1 * 2 = (lowOf _ _).2 * (v2 o - v2 p)
    unfold v2
    have key : 2 * (o.1 * p.2 + (-p.1) * o.2) = (o.1 * (2 / o.2) - p.1 * (2 / p.2)) * (o.2 * p.2) := by
      rcases ho with e | e <;> rcases hp with f | f <;> rw [e, f] <;> simp <;> omega
    have hz : o.2 * p.2 ≠ 0 := by omega
    refine Int.eq_of_mul_eq_mul_right hz ?_
    generalize o.1 * (2 / o.2) - p.1 * (2 / p.2) = w at key
    generalize lowOf (o.1 * p.2 + (-p.1) * o.2) (o.2 * p.2) = dd at cr
    generalize o.1 * p.2 + (-p.1) * o.2 = A at key cr
    generalize o.2 * p.2 = U at key cr
    grind
  have hd2 : d.2 = 1 ∨ d.2 = 2 := by
    have := Int.le_of_dvd (by decide) hd
    have : 1 ≤ d.2 := a4
    omega
  have hv : v2 d = v2 o - v2 p := by
    have key : 2 * (o.1 * p.2 + (-p.1) * o.2) = (o.1 * (2 / o.2) - p.1 * (2 / p.2)) * (o.2 * p.2) := by
      rcases ho with e | e <;> rcases hp with f | f <;> rw [e, f] <;> simp <;> omega
    have h22 : (2 / d.2) * d.2 = 2 := by
      rcases hd2 with e | e <;> rw [e] <;> decide
    unfold v2
    have hz : o.2 * p.2 ≠ 0 := by omega
    have hz2 : d.2 ≠ 0 := by omega
    refine Int.eq_of_mul_eq_mul_right (Int.mul_ne_zero hz hz2) ?_
    have cr' : d.1 * (o.2 * p.2) = (o.1 * p.2 + (-p.1) * o.2) * d.2 := cr
    generalize o.1 * (2 / o.2) - p.1 * (2 / p.2) = w at key
    generalize o.1 * p.2 + (-p.1) * o.2 = A at key cr'
    generalize o.2 * p.2 = U at key cr'
    generalize 2 / d.2 = q at h22
    grind
  refine ⟨hd2, hv, fun e => by rw [e]; rfl, fun e => ?_⟩
  have e1 : d.1 = 0 := by
    unfold v2 at e
    rcases hd2 with f | f <;> rw [f] at e
    · have : d.1 * 2 = 0 := e
      omega
    · have : d.1 * 1 = 0 := e
      omega
  have a3' : Int.gcd d.1 d.2 = 1 := a3
  rw [e1, Int.gcd_zero_left] at a3'
  have e2 : d.2 = 1 := by
    rcases hd2 with f | f
    · exact f
    · rw [f] at a3'
      exact absurd a3' (by decide)
  exact Prod.ext e1 e2
/-! rows stay within a stretch -/
theorem rowIx_stay {m n : Int} (hmn : m ≤ n) : ∀ {rs : List Row}, (∀ r ∈ rs, r.1 ≤ n → r.1 ≤ m) → rowIx rs n = rowIx rs m
  | [], _ => rfl
  | r :: rest, h => by
    have ih := rowIx_stay hmn (rs := rest) fun x hx => h x (List.mem_cons_of_mem _ hx)
    unfold rowIx at ih ⊢
    by_cases e : r.1 ≤ m
    · rw [List.takeWhile_cons_of_pos (by simpa using Int.le_trans e hmn), List.takeWhile_cons_of_pos (by simpa using e), List.length_cons, List.length_cons, ih]
    · have e2 : ¬ r.1 ≤ n := fun z => e (h r List.mem_cons_self z)
      rw [List.takeWhile_cons_of_neg (by simpa using e2), List.takeWhile_cons_of_neg (by simpa using e)]
theorem rowTs_stay {m n : Int} {rs : List Row} (hmn : m ≤ n) (h : ∀ r ∈ rs, r.1 ≤ n → r.1 ≤ m) : rowTs rs n = rowTs rs m := by
  unfold rowTs
  rw [rowIx_stay hmn h]
end OG
namespace OG
open PySem PySem.Spec PyProof.Rows L2
def spPartLess (K : PySem.W.Frag) : Sp := fun vs H Q _ => ∃ (u v : V) (o p : Int × Int), vs = [u, v] ∧ PartAt K H u o ∧ PartAt K H v p ∧ 1 ≤ o.2 ∧ o.2 ≤ 1000000 ∧ 1 ≤ p.2 ∧ p.2 ≤ 1000000 ∧ ∀ w H', Same H H' → Rp H' w (encP (lowOf (o.1 * p.2 + (-p.1) * o.2) (o.2 * p.2))) → Q w H'
def spLcm : Sp := fun vs H Q _ => ∃ (a : Addr) (ns : List Int), vs = [.ref a] ∧ LAt H a ns ∧ (∀ n ∈ ns, n = 1 ∨ n = 2) ∧ ∀ m, (m = 1 ∨ m = 2) → (∀ n ∈ ns, n ∣ m) → Q (.int m) H
end OG

set_option Elab.async false
set_option linter.all false
set_option maxRecDepth 100000
set_option maxHeartbeats 4000000
namespace OG
open PySem PySem.Spec PyProof.Rows L2
/-! ### sorted(l, reverse=True), l a list of pairs of ints -/
def rSortRP (K : PySem.W.Frag) : List V → List V → Hp → VK → Prop := fun vs zs H Q => ∃ (a : Addr) (bs : List Addr), vs = [.ref a] ∧ zs = [.bl true] ∧ SqL K H a (bs.map V.ref) ∧ (∀ b ∈ bs, H b = some (.tup [.int (keyAt H b).1, .int (keyAt H b).2])) ∧
  ∀ (cs : List Addr) (p : Addr), cs.Perm bs → SrtO.Srtd (fun x y => SrtO.lexB (keyAt H x) (keyAt H y)) cs → H p = none → Q (.ref p) (upd H p (.lst (cs.reverse.map V.ref)))
theorem cr_sortedRP {X : Cx} : CallRK X (.builtin "sorted") [Str.ofString "reverse"] (rSortRP X.K) := by
  intro pins sh st H args kws vals kvals Qv inv rel relk ask
  obtain ⟨src, places, rfl, rfl, held, pairsAt, wish⟩ := ask
  obtain ⟨arg, rfl, rarg⟩ := rel.one
  cases rarg
  obtain ⟨flag, rfl, rflag⟩ := relk.one
  obtain rfl : flag = Value.bool true := rflag
  obtain ⟨its, rv, isl, fits⟩ := inv.list held
  have itsEq : its = places.map Value.ref := refs_at rv
  subst itsEq
  have fits' : (places.map Value.ref).length ≤ sizeLine := by
    rw [List.length_map] at fits ⊢
    exact fits
  have isPair : ∀ v ∈ places.map Value.ref, Srt.IsPair sh.heap v (keyAt H (addrOf v)).1 (keyAt H (addrOf v)).2 := fun v hv => by
    obtain ⟨b, hb, rfl⟩ := List.mem_map.mp hv
    obtain ⟨_, two, both, ob, o1, o2, c, o3⟩ := inv.hok _ _ (pairsAt b hb)
    obtain ⟨i1, i2, rfl, e1, e2⟩ := vals2 both
    obtain ⟨k1, rfl⟩ := e1
    obtain ⟨k2, rfl⟩ := e2
    exact ⟨b, ob, k1, k2, c, rfl, o1, o2, o3⟩
  refine SrtR.sorted_ordK (b := true) (fun _ => rfl) (PyProof.Rows.args_sorted_rev _ _) (fun _ => PyProof.Rows.args_list_sort_rev _ _) (SrtO.swo_lex fun v => keyAt H (addrOf v)) isl.isList fits' (fun two hp1 at1 got1 keep1 =>
    SrtO.pairs_sortableO (k := fun v => keyAt H (addrOf v)) (by omega) (fun v hv => (isPair v hv).keeps fun b o e _ => (keep1 b o e).2) fun o same => by
      have hs : some o = some (seqObj "list" (places.map Value.ref).toArray 0) := same.symm.trans got1
      cases hs
      exact fun c => absurd (Value.type.inj c) (by decide)) fun out up stb => ?_
  have stp : out.Perm (places.map Value.ref) := stb.perm.trans (List.reverse_perm _)
  have refs : ∀ v ∈ out, Value.ref (addrOf v) = v := fun v hv => by
    obtain ⟨b, _, rfl⟩ := List.mem_map.mp (stp.mem_iff.mp hv)
    rfl
  have perm : (out.map addrOf).Perm places := by
    have p1 := stp.map addrOf
    rw [List.map_map] at p1
    exact p1.trans (List.Perm.of_eq (List.map_id _))
  have backEq : (out.map addrOf).reverse.map Value.ref = out.reverse := by
    rw [List.map_reverse, List.map_map]
    exact congrArg List.reverse ((List.map_congr_left refs).trans (List.map_id _))
  obtain ⟨ep, laidAt⟩ := PyProof.Rows.sortedAll_at sh.heap (places.map Value.ref) out.toArray.reverse
  have rels : Vals ((out.map addrOf).reverse.map V.ref) out.reverse := by
    have r1 := vals_refs (out.map addrOf).reverse
    rw [backEq] at r1
    exact r1
  have long : ((out.map addrOf).reverse.map V.ref).length ≤ sizeLine := by
    rw [List.length_map, List.length_reverse, perm.length_eq]
    rw [List.length_map] at fits
    exact fits
  have arr : out.reverse.toArray = out.toArray.reverse := by simp
  exact ⟨.ref _, upd H (sh.heap.objs.size + 1) (.lst ((out.map addrOf).reverse.map V.ref)), inv.laid (t' := sh.toks) (fun _ _ => PyProof.Rows.sortedAll_old) (Nat.le_succ _) ⟨long, out.reverse, ep, rels, by rw [arr]; exact laidAt⟩, rfl, wish (out.map addrOf) _ perm (List.pairwise_map.mpr up) (inv.hok.fresh (Nat.le_succ _))⟩
end OG

set_option Elab.async false
set_option linter.all false
set_option maxRecDepth 100000
set_option maxHeartbeats 4000000
namespace OG
open PySem PySem.Spec PyProof.Rows L2
/-! ### set(l), l a list of ints: the set is known -/
abbrev bareSet (w : World) : Obj := { cls := .type "set", dict := none, data := .set #[] 0 (.fresh 0 0 (!w.params.followText "set-order")) }
/-- what stands when set.__init__ has come back -/
def Filled (w : World) (before : Shared) (ns : List Int) (got : Value) (after : Shared) : Prop :=
  got = .none ∧ ∃ hp tk m, after = { before with heap := hp, toks := tk } ∧ SetR w hp before.heap.objs.size (fun j => decide (j ∈ ns)) m ∧ m ≤ ns.length ∧ ∀ b o, before.heap.get? b = some o → hp.get? b = some o
section
variable {P : Program} {w : World} {A : Around} {E : Value → Shared → Prop} {st : Shared} {src : Addr} {its : Array Value} {ns : List Int}
theorem ints_by (are : IntsAre its.toList ns) (i : Nat) (v : Value) (at' : its[i]? = some v) : ∃ k t, ns[i]? = some k ∧ v = .int k t := by
  have same : its.size = ns.length := (Array.length_toList ..).symm.trans are.length
  have below : i < ns.length := same ▸ (Array.getElem?_eq_some_iff.mp at').1
  obtain ⟨t, rfl⟩ := are.int_at i v ((Array.getElem?_toList ..).trans at')
  exact ⟨ns.getD i 0, t, by simp [List.getD_eq_getElem?_getD, List.getElem?_eq_getElem below], rfl⟩
theorem fill_from (calm : A.handled = none) (isl : st.heap.IsList src its) (are : IntsAre its.toList ns) (few : ns.length + 1 < scanBound) :
    codeAny (model P w) A (.call (.builtin "set.__init__") ⟨[.ref st.heap.objs.size, .ref src], []⟩) (wants (Filled w st ns) E) { st with heap := st.heap.push (bareSet w) } := by
  obtain ⟨⟨cl, di, da, sl⟩, at0, c, n, d⟩ := isl
  simp only at c d
  subst c d
  have at1 := Heap.get?_push_of_some (bareSet w) at0
  have own1 : (st.heap.push (bareSet w)).get? st.heap.objs.size = some (bareSet w) := Heap.get?_push_size _ rfl
  have typ : Shared.TypeIs { st with heap := st.heap.push (bareSet w) } (.ref st.heap.objs.size) "set" := ⟨_, own1, rfl⟩
  have isl1 : (st.heap.push (bareSet w)).IsList src its := ⟨_, at1, rfl, n, rfl⟩
  have f1 := F.sub_list_set
  have f2 := F.sub_list_frozenset
  have f3 : (Value.type "list" == Value.type "dict") = false := by decide
  refine codeAny_call_builtin F.called_set.init.plain F.entry_set_init (check_set_init_1 typ ?_)
  unfold Builtin.«set.__init__» noKeywords Builtin.Frozenset.updateFrom
  generalize keep : pyIter = PI
  wp_walk
  subst keep
  refine wpAny_pyIter_list isl1 (wpAny_bind (wpAny_runValue ?_))
  have early : src < st.heap.objs.size := Heap.lt_size at0
  have sz : (st.heap.push (bareSet w)).objs.size = st.heap.objs.size + 1 := Heap.size_push ..
  have apart : src ≠ (st.heap.push (bareSet w)).objs.size := fun e => Nat.lt_irrefl src (Nat.lt_trans early (by rw [e, sz]; exact Nat.lt_succ_self _))
  have off : st.heap.objs.size ∉ [(st.heap.push (bareSet w)).objs.size, src] := fun mem => by
    rcases List.mem_cons.mp mem with e | mem2
    · rw [sz] at e
      exact Nat.succ_ne_self _ e.symm
    · exact Nat.lt_irrefl src (by rw [← List.mem_singleton.mp mem2]; rw [← List.mem_singleton.mp mem2] at early; exact early)
  have many : its.size = ns.length := (Array.length_toList ..).symm.trans are.length
  have still : A.in1.in1.handled = none := by simp [calm]
  refine set_update_ints (Walks.list still _ src apart its).toS st.heap.objs.size off ns many few (ints_by are) (its.size - 0) 0 _ (by omega) (Nat.zero_le _) ?start ?first ?rest
  case start => exact ⟨⟨_, Heap.get?_push_size _ rfl, rfl, rfl⟩, isl1.push _⟩
  case first => exact ⟨0, Nat.le_refl 0, setR_new_at (Heap.get?_push_of_some _ own1)⟩
  rintro ⟨hp, ge, dr, tk, os⟩ m moved most known
  obtain rfl : ge = st.gens := moved.gens
  obtain rfl : dr = st.drawn := moved.drawn
  obtain rfl : os = st.os := moved.os
  refine wpAny_pure (show wpAny _ _ (ret Value.none) _ _ _ from wpAny_pure ⟨rfl, hp, tk, m, rfl, known, many ▸ most, fun b o was => ?_⟩)
  have low : b < st.heap.objs.size := Heap.lt_size was
  refine moved.heap b o (fun mem => ?_) (Heap.get?_push_of_some _ (Heap.get?_push_of_some _ was))
  rcases List.mem_cons.mp mem with e | mem2
  · exact Nat.ne_of_lt low e
  · exact Nat.ne_of_lt (Nat.lt_succ_of_lt low) ((List.mem_singleton.mp mem2).trans sz)
theorem set_of_list {Q : Value → Shared → Prop} (calm : A.handled = none) (isl : st.heap.IsList src its) (are : IntsAre its.toList ns) (few : ns.length + 1 < scanBound)
    (wish : ∀ hp tk m, SetR w hp st.heap.objs.size (fun j => decide (j ∈ ns)) m → m ≤ ns.length → (∀ b o, st.heap.get? b = some o → hp.get? b = some o) → Q (.ref st.heap.objs.size) { st with heap := hp, toks := tk }) :
    wpAny (model P w) A (call (.type "set") [.ref src]) Q E st := by
  obtain ⟨mc, mt, f1⟩ := F.called_set.mro
  have f2 := F.called_set.made
  have f3 := F.called_set.sub
  have f4 := F.called_set.notType
  have f5 := F.called_set.canCreate
  have f6 := F.typeCall_set_1 (.ref src)
  refine wpAny_call (codeAny_of_tree (show wpAny _ _ (callAny (.type "set") _) _ _ _ from wpAny_pure ⟨Code.quiet_builtin _ (by decide +kernel), codeAny_builtin F.entry_type_call ?_⟩))
  rw [Around.under_plain (weight_type_call_type "set" [.ref src] []) rfl]
  repeat (any_goals first | assumption | wp_step)
  refine codeAny_mono (code_set_led1 (.ref src) (E := E) (Q₁ := fun got after => got = .ref st.heap.objs.size ∧ after = { st with heap := st.heap.push (bareSet w) }) ⟨rfl, rfl⟩) fun res after told => ?_
  rcases res with err | fl
  · exact told
  cases fl <;> try exact told.elim
  obtain ⟨rfl, rfl⟩ := told
  have typ : Shared.TypeIs { st with heap := st.heap.push (bareSet w) } (.ref st.heap.objs.size) "set" := ⟨_, Heap.get?_push_size _ rfl, rfl⟩
  have f7 := F.called_set.init.lookup
  have f8 := F.called_set.init.bind (.ref st.heap.objs.size)
  repeat (any_goals first | assumption | wp_step)
  refine codeAny_mono (fill_from (E := E) calm isl are few) fun res2 after2 told2 => ?_
  rcases res2 with err | fl
  · exact told2
  cases fl <;> try exact told2.elim
  obtain ⟨rfl, hp, tk, m, rfl, known, most, kept⟩ := told2
  repeat (any_goals first | assumption | wp_step)
  exact wish hp tk m known most kept
/-- set(l), l a list of ints -/
def rSetFrom (X : Cx) : List V → Hp → VK → Prop := fun xs H Q => ∃ (a : Addr) (ns : List Int), xs = [.ref a] ∧ SqL X.K H a (ns.map V.int) ∧ ns.length ≤ 1000 ∧
  ∀ (p : Addr) (m : Nat), m ≤ ns.length → H p = none → Q (.ref p) (upd H p (SetO X.w p (fun j => decide (j ∈ ns)) m))
theorem cr_setL {X : Cx} (hc : X.calm = true) : CallR X (.type "set") (rSetFrom X) := by
  intro pins sh stt H xs us Q inv rel ask
  obtain ⟨a, ns, rfl, held, few, wish⟩ := ask
  obtain ⟨arg, rfl, rarg⟩ := rel.one
  cases rarg
  obtain ⟨its, rv, isl, fits⟩ := inv.list held
  refine set_of_list (ns := ns) (inv.ok.hd hc) isl.isList (ints_of_vals rv) (by unfold scanBound; omega) fun hp tk m known most kept => ?_
  exact ⟨.ref _, upd H sh.heap.objs.size (SetO X.w sh.heap.objs.size (fun j => decide (j ∈ ns)) m), inv.laid (t' := tk) kept (Nat.le_refl _) (setO_new known), rfl, wish _ m most (inv.hok.fresh (Nat.le_refl _))⟩
end
end OG

set_option Elab.async false
set_option linter.all false
set_option maxRecDepth 100000
set_option maxHeartbeats 4000000
namespace OG
open PySem PySem.Spec PyProof.Rows L2
/-! ### {k: v for .. in .. if ..}, the keys tuples -/
section
variable {X : Cx}
/-- d[y] = z as a comprehension does it, whatever the keys are -/
theorem dput_plain {pins : List (Addr × Obj)} {vars : L2.St} {H H' : Hp} {sh : Shared} {E : Value → Shared → Prop} {D : Addr} {y z : V} {u r : Value} {Q : Unit → Shared → Prop} (room : X.A.units < cLine) (inv : Inv X pins vars H sh) (put : DPut H D y z H')
    (ry : RelV y u) (rz : RelV z r) (wish : ∀ sh', Inv X pins vars H' sh' → Q () sh') : wpAny (model X.prog X.w) X.A (dictSet D u r) Q E sh := by
  rcases put with ⟨kvs, k, was, rfl, short, rfl⟩ | ⟨kvs, k, c, was, rfl, keyAt', short, rfl⟩
  · exact d_dictSet inv was short ry rz wish
  obtain rfl : u = Value.ref c := ry
  obtain ⟨most, notSys, ents, rel, isd⟩ := dt_of inv.hok was
  have grown : (putK kvs k z).length ≤ sizeLine := Nat.le_trans (length_putK kvs k z) short
  refine wpAny_dictSet_heap (knd := tupleKind (mixKind X.prog X.w)) (hsz := by rw [← Paired.length rel]; exact most) room (key_of inv.hok keyAt') isd fun hp isd' same => wish _ ?_
  obtain ⟨o, es, ep, here, o1, o2, o3, _, o4⟩ := isd'
  exact d_write inv (by rw [was]; exact True.intro) same ⟨o, here⟩ ⟨grown, notSys, _, (rel.put k keyAt' rz).keeps fun b ys eb => (upd_ne (ne_of eb was fun z => nomatch z)).trans eb, o, es, ep, here, o1, o2, o3, o4⟩
/-- one turn: what is to hold when the item x has been drawn -/
def dTurn (g : TG) (tt : TT) (tk tv : TE) (vs : List Nat) (vars : L2.St) (D : Addr) (Nx : Hp → Prop) (x : V) (H : Hp) : Prop :=
  g x (wipe vars vs) H fun vars2 H2 => wipe vars2 vs = wipe vars vs ∧ tt vars2 H2 fun b H3 =>
    if b = true then tk vars2 H3 fun y H4 => tv vars2 H4 fun z H5 => ∃ H6, DPut H5 D y z H6 ∧ Nx H6 else Nx H3
def tDcT (wi : TI) (g : TG) (tt : TT) (tk tv : TE) (vs : List Nat) : TE := fun vars H Q => wi vars H fun J H1 => ∀ D, H1 D = none →
  ∃ W : Nat → Nat → Hp → Prop, (∃ m, W 0 m (upd H1 D (.dT []))) ∧ ∀ i m H, W i m H → (J.stop i H ∧ Q (.ref D) H) ∨
    (J.go i H ∧ ∃ Nx : Hp → Prop, (∀ H', Nx H' → ∃ m', m' < m ∧ W (i + 1) m' H') ∧ ∀ x H', J.yld i H x H' → dTurn g tt tk tv vs vars D Nx x H')
variable {kx vx tg iter : Expr} {ifs : List Expr} {scope : Scope} {own : List (Str × Nat)} {pos : Pos} {wi : TI} {g : TG} {tt : TT} {tk tv : TE}
theorem pe_dcT (room : X.A.units < cLine) (calm : X.calm = true) (nodup : X.N.Nodup) (pi : PI X tg iter wi) (blk : BlkOk X.N X.env.scope scope own)
    (pgs : ∀ s H C cl fp, PG (X.blk s H scope (compEnvC scope cl C X.env) fp) tg g) (pts : ∀ s H C cl fp, PTs (X.blk s H scope (compEnvC scope cl C X.env) fp) ifs tt)
    (pks : ∀ s H C cl fp, PE (X.blk s H scope (compEnvC scope cl C X.env) fp) kx tk) (pvs : ∀ s H C cl fp, PE (X.blk s H scope (compEnvC scope cl C X.env) fp) vx tv)
    (plain : ∀ x, foldedSetIterable iter X.env x = pure x := by intro _; rfl) :
    PE X (.DictComp kx vx [⟨tg, iter, ifs, 0⟩] scope pos) (tDcT wi g tt tk tv (own.map (·.2))) := by
  refine ⟨fun pins s0 vars H Q inv ask => ?_⟩
  rw [arm_eval_DictComp]
  have frees : ∀ y ∈ scope.names, y.2 = .free → ∃ c, X.env.cells.lookup y.1 = some c := fun y hy e => (blk.free y hy e).elim (fun k => inv.ok.has _ (.inl k)) fun k => inv.ok.has _ (.inr k)
  refine wpAny_comprehension_free rfl plain (closure_ok frees) blk.kind (fun y hy e => by rw [blk.uniq y hy, e]) (thn (pi.run pins s0 vars H _ inv ask) fun _ s1 more => thn more fun _ s2 got => ?_)
  obtain ⟨it, fp, tn, J, H2, rfl, inv2, T, st2, fps2, loops⟩ := got
  refine wpAny_newObj_type (newEnv_comp ?_)
  obtain ⟨W, ⟨m0, w0⟩, turn⟩ := loops s2.heap.objs.size (inv2.hok.fresh (Nat.le_refl _))
  have inv3 : Inv X pins vars (upd H2 s2.heap.objs.size (.dT [])) { s2 with heap := s2.heap.push { cls := .type "dict", data := .dict #[] } } :=
    inv2.laid (t' := s2.toks) (fun b o e => Heap.get?_push_of_some _ e) (Nat.le_refl _) (dt_empty s2.heap inv2.big)
  have fps3 : ∀ b ∈ fp, FpOk X pins (upd H2 s2.heap.objs.size (.dT [])) b ∧ b < (s2.heap.push { cls := .type "dict", data := .dict #[] }).objs.size := fun b hb => by
    obtain ⟨_, e, _⟩ := T.obj _ _ st2 b hb
    have low : b < s2.heap.objs.size := Heap.lt_size e
    exact ⟨⟨(upd_ne (Nat.ne_of_lt low)).trans (fps2 b hb).1, (fps2 b hb).2⟩, (Heap.size_push ..).symm ▸ Nat.lt_succ_of_lt low⟩
  have st3 : tn 0 (s2.heap.push { cls := .type "dict", data := .dict #[] }) := T.keep _ _ _ st2 fun b _ o e => Heap.get?_push_of_some _ e
  generalize eD : s2.heap.objs.size = D at w0 turn inv3 fps3 ⊢
  generalize e3 : ({ s2 with heap := s2.heap.push { cls := .type "dict", data := .dict #[] } } : Shared) = s3 at inv3 ⊢
  have hp3 : s2.heap.push { cls := .type "dict", data := .dict #[] } = s3.heap := congrArg Shared.heap e3
  rw [hp3] at fps3 st3
  have inv4 := block_start inv3 blk nodup fps3
  generalize eCe : compEnvC scope (cellsFrom (s3.heap.objs.size + 1) scope.names (cloFrom X.env.cells scope.names [])) s3.heap.objs.size X.env = ce at inv4
  have pg := pgs s3 (upd H2 D (.dT [])) s3.heap.objs.size (cellsFrom (s3.heap.objs.size + 1) scope.names (cloFrom X.env.cells scope.names [])) fp
  have pt := pts s3 (upd H2 D (.dT [])) s3.heap.objs.size (cellsFrom (s3.heap.objs.size + 1) scope.names (cloFrom X.env.cells scope.names [])) fp
  have pk := pks s3 (upd H2 D (.dT [])) s3.heap.objs.size (cellsFrom (s3.heap.objs.size + 1) scope.names (cloFrom X.env.cells scope.names [])) fp
  have pv := pvs s3 (upd H2 D (.dT [])) s3.heap.objs.size (cellsFrom (s3.heap.objs.size + 1) scope.names (cloFrom X.env.cells scope.names [])) fp
  rw [eCe] at pg pt pk pv
  have home : ce.locals = s3.heap.objs.size := by rw [← eCe]; rfl
  generalize eH3 : upd H2 D (.dT []) = H3 at inv3 inv4 pg pt pk pv w0 fps3
  generalize e4 : ({ s3 with heap := pushCells (s3.heap.push { cls := .type "dict", data := .dict #[] }) scope.names } : Shared) = s4 at inv4
  have st4 : tn 0 s4.heap := T.keep _ _ _ st3 fun b _ o e => by rw [← e4]; exact pushCells_keeps _ _ _ _ (Heap.get?_push_of_some _ e)
  generalize eY : X.blk s3 H3 scope ce fp = Y at inv4 pg pt pk pv
  have ends : ∀ vars' H' s', Inv Y [] vars' H' s' → (∀ b ∈ fp, H' b = none) → ∀ b ∈ fp, FpOk Y [] H' b := by
    subst eY
    exact fun vars' H' s' inv' clear b hb => ⟨clear b hb, (inv'.ok.exf b hb).1, inv'.ok.exfs b hb, .inl hb, (inv'.ok.exf b hb).2, fun p hp => absurd (show p ∈ ([] : List (Addr × Obj)) ++ [] from hp) (by simp)⟩
  have body : ∀ Rr : Result → Shared → Prop, (∀ s' H' m, Inv X pins vars H' s' → Q (.ref D) H' → s'.heap.Ns s3.heap.objs.size m → FpOk X pins H' s3.heap.objs.size → Rr (.ok .next) s') →
      codeAny (model X.prog X.w) X.A (.compLoop (.DictComp kx vx [⟨tg, iter, ifs, 0⟩] scope pos) 0 (.ref it) (.ref D) ce) Rr s4 := by
    intro Rr done
    refine compLoop_anyD (fun n s' => ∃ i H', Inv Y [] (wipe vars (own.map (·.2))) H' s' ∧ tn i s'.heap ∧ (∀ b ∈ fp, H' b = none) ∧ W i n H') ?_ m0 ⟨0, H3, inv4, st4, fun b hb => (fps3 b hb).1.1, w0⟩
    rintro n s5 ⟨i, H5, inv5, st5, clear5, w5⟩
    subst eY
    rcases turn i n H5 w5 with ⟨stop, won⟩ | ⟨go, Nx, next, step⟩
    · refine thnF (T.done (X.blk s3 H3 scope ce fp) rfl rfl rfl calm i [] s5 _ H5 (fun _ _ => False) inv5 (ends _ _ _ inv5 clear5) st5 stop) fun r s6 ⟨none', inv6⟩ => ?_
      subst none'
      have free6 : H5 ce.locals = none := inv6.free
      obtain ⟨m, isNs, _⟩ := inv6.loc
      have isNs' : s6.heap.Ns ce.locals m := isNs
      rw [home] at free6 isNs'
      exact done s6 H5 m (inv3.call' (ch := fp) inv6.os inv6.base inv6.hok inv6.bare fun b hb => have ⟨_, a1, _, a3, a4, a5⟩ := (fps3 b hb).1; ⟨a3, a1, a4, a5⟩) won isNs' (inv3.fpOk (Nat.le_refl _) free6)
    · refine thnF (T.item (X.blk s3 H3 scope ce fp) rfl rfl rfl calm i [] s5 _ H5 (fun _ _ => False) inv5 (ends _ _ _ inv5 clear5) st5 go) fun r s6 ⟨u, some', owned⟩ => ?_
      subst some'
      refine thnF owned fun _ s7 ⟨x, H7, inv7, rx, drawn, st7, clear7⟩ => ?_
      have held := inv7.pinned (ends _ _ _ inv7 clear7) (T.obj _ _ st7)
      refine thnF (pg.run _ s7 _ H7 x u _ held rx (step x H7 drawn)) fun _ s8 ⟨vars8, H8, inv8, wiped, q8⟩ => thnF (pt.run _ s8 vars8 H8 _ inv8 q8) fun b s9 ⟨H9, inv9, q9⟩ => ?_
      have close : ∀ s' H', Inv (X.blk s3 H3 scope ce fp) ([] ++ pinsAt fp s7.heap) vars8 H' s' → Nx H' →
          ∃ m, m < n ∧ ∃ i H', Inv (X.blk s3 H3 scope ce fp) [] (wipe vars (own.map (·.2))) H' s' ∧ tn i s'.heap ∧ (∀ b ∈ fp, H' b = none) ∧ W i m H' := fun s' H' inv' nx => by
        obtain ⟨m', less, w'⟩ := next H' nx
        have stays : ∀ b ∈ fp, ∀ o, s7.heap.get? b = some o → s'.heap.get? b = some o ∧ H' b = none := fun b hb o e =>
          have pinned := inv'.pin (b, o) (List.mem_append_right _ (List.mem_append_right _ (mem_pinsAt hb e)))
          ⟨pinned.1, pinned.2.1⟩
        refine ⟨m', less, i + 1, H', (inv'.unpinned (pins := [])).weak (by rw [← wiped, wipe_length]) (fun j v e => (wipe_some (wiped.symm ▸ e)).1), T.keep _ _ _ st7 fun b hb o e => (stays b hb o e).1, fun b hb => ?_, w'⟩
        obtain ⟨o, e, _⟩ := T.obj _ _ st7 b hb
        exact (stays b hb o e).2
      cases b
      · simp only [Bool.false_eq_true, if_false] at q9 ⊢
        exact close s9 H9 inv9 q9
      · simp only [if_true] at q9 ⊢
        refine thnF (pk.run _ s9 vars8 H9 _ inv9 q9) fun kv s10 ⟨y, H10, inv10, ry, q10⟩ => thnF (pv.run _ s10 vars8 H10 _ inv10 q10) fun vv s11 ⟨z, H11, inv11, rz, H12, put, nx⟩ => ?_
        exact dput_plain (X := X.blk s3 H3 scope ce fp) room inv11 put ry rz fun s12 inv12 => close s12 H12 inv12 nx
  have loop := body (compPost (model X.prog X.w) X.A X.xe none (EP X pins vars Q) (.ref D) s3.heap.objs.size) fun s' H' m inv' won isNs fok =>
    have ⟨f0, f1, _, f3, f4, f5⟩ := fok
    ⟨m, isNs, fun h'' but => ⟨.ref D, H', inv'.turned (t' := s'.toks) (fun b o ne e => (but.2 b ne).trans e) f0 f1 f3 f4 f5, rfl, won⟩⟩
  show codeAny _ _ (.compStart _ 0 (.ref it) (.ref D) (compEnvC scope (cellsFrom (s3.heap.objs.size + 1) scope.names (cloFrom X.env.cells scope.names [])) s3.heap.objs.size X.env)) (compPost _ _ _ _ _ _ s3.heap.objs.size) _
  rw [eCe]
  exact codeAny_compStart_dict loop (T.self X.A 0 _ _ _ st4 loop)
end
end OG

set_option Elab.async false
set_option linter.all false
set_option maxRecDepth 100000
set_option maxHeartbeats 4000000
namespace OG
open PySem PySem.Spec PyProof.Rows L2
/-! ### d.values(), the keys of d tuples -/
def Itvt (d : Addr) (ob : Obj) (kvs : List (List L2.Key × V)) : It :=
  ⟨fun i H => H d = some (.frz ob (.dT kvs)) ∧ i < kvs.length, fun i H x H' => H' = H ∧ ∃ k, kvs[i]? = some (k, x), fun i H => H d = some (.frz ob (.dT kvs)) ∧ kvs.length ≤ i⟩
section
variable {X : Cx} {pins : List (Addr × Obj)} {vars : L2.St} {H : Hp} {sh : Shared} {d : Addr} {ob : Obj} {kvs : List (List L2.Key × V)}
theorem frz_raw (inv : Inv X pins vars H sh) (lk : H d = some (.frz ob (.dT kvs))) : ∃ es ep, ob.data = .dict es ep ∧ sh.heap.DictRaw d es ep ∧ (d == sysModules) = false ∧ es.size = kvs.length ∧
    ∀ (i : Nat) (k : List L2.Key) (v : V), kvs[i]? = some (k, v) → ∃ en : DictEntry, es[i]? = some en ∧ RelV v en.val := by
  obtain ⟨here, _, lo, xs, pr, ob', es, ep, here', ex, dt, ents, _⟩ := inv.hok d _ lk
  cases Option.some.inj (here.symm.trans here')
  refine ⟨es, ep, dt, ⟨ob, here, ex, dt⟩, lo, (size_of_entries ents).trans (Paired.length pr).symm, fun i k v at' => ?_⟩
  obtain ⟨b, hb, _, _, rv⟩ := paired_get pr at'
  have q := entry_at ents i
  rw [hb] at q
  exact ⟨_, q, rv⟩
theorem turn_valsT {P : Program} {w : World} {K : PySem.W.Frag} {tg : Expr} {es : Array DictEntry} {ep : Nat} (it : Addr) (dt : ob.data = .dict es ep) (sz : es.size = kvs.length) : Turn P w K tg (Itvt d ob kvs) [it] it (fun i h => h.IsValIter it d i es.size ep) where
  mem := List.mem_singleton.mpr rfl
  obj := fun i h st b hb => by
    obtain ⟨oi, e, _, dd⟩ := st
    exact ⟨oi, (List.mem_singleton.mp hb) ▸ e, fun v z => nomatch (dd.symm.trans z)⟩
  keep := fun i h h' st k => st.at fun oi e => k it (List.mem_singleton.mpr rfl) oi e
  item := by
    rintro X rfl rfl rfl calm i pins sh vars H E inv fps st ⟨lk, lt⟩
    obtain ⟨f0, f1, _, f3, f4, f5⟩ := fps it (List.mem_singleton.mpr rfl)
    obtain ⟨es', ep', dt', raw, lo, sz', ents⟩ := frz_raw inv lk
    obtain ⟨rfl, rfl⟩ := dict_ep dt dt'
    obtain ⟨⟨k, v⟩, at'⟩ : ∃ p, kvs[i]? = some p := ⟨kvs[i], List.getElem?_eq_getElem lt⟩
    obtain ⟨en, en', rv⟩ := ents i k v at'
    obtain ⟨le, eqn⟩ := Array.getElem?_eq_some_iff.mp en'
    refine PySem.wpAny_pyNext_values_item_raw st raw le fun h' st' sb => ?_
    rw [eqn]
    obtain ⟨oi, e, c, dd⟩ := id st'
    exact ⟨en.val, rfl, go_of (s := { sh with heap := h' }) e c dd (by decide) ⟨v, H, inv.turned (t' := sh.toks) (fun b o ne e => (sb.2 b ne).trans e) f0 f1 f3 f4 f5, rv, ⟨rfl, k, at'⟩, st', fun b hb => (fps b hb).1⟩⟩
  done := by
    rintro X rfl rfl rfl calm i pins sh vars H E inv fps st ⟨lk, ge⟩
    obtain ⟨f0, f1, _, f3, f4, f5⟩ := fps it (List.mem_singleton.mpr rfl)
    obtain ⟨es', ep', dt', raw, lo, sz', ents⟩ := frz_raw inv lk
    obtain ⟨rfl, rfl⟩ := dict_ep dt dt'
    exact PySem.wpAny_pyNext_values_end_raw (inv.ok.hd calm) st raw (sz ▸ ge) fun h' eb => ⟨rfl, inv.turned (t' := sh.toks) (fun b o ne e => eb b o ne e) f0 f1 f3 f4 f5⟩
  self := fun A i s Q E st h => wpAny_pyIter_valiter st h
def iValsT (td : TE) : TI := fun vars H R => td vars H fun x H1 => ∃ d ob kvs, x = .ref d ∧ H1 d = some (.frz ob (.dT kvs)) ∧ R (Itvt d ob kvs) H1
theorem pi_valuesT {tg e : Expr} {td : TE} {apos cpos : Pos} (pe : PE X e td) (base : attributeBase e "values" X.env (eval e X.env) = eval e X.env := by rfl) (line : (apos.endLine == cpos.line) = true := by rfl) :
    PI X tg (.Call (.Attribute e "values" apos) [] [] cpos) (iValsT td) := by
  refine ⟨fun pins sh vars H R inv ask => wpAny_Call_method (T := "dict") (id := "dict.values") base rfl line F.plainAttrs_dict F.slot_dict_values F.type_dict_values (thn (pe.run pins sh vars H _ inv ask) fun u s1 ⟨x, H1, inv1, rx, d, ob, kvs, ex, lk, q⟩ => ?_)⟩
  subst ex
  obtain rfl : u = Value.ref d := rx
  obtain ⟨es, ep, dt, raw, lo, sz, _⟩ := frz_raw inv1 lk
  refine ⟨raw.typeIs, (fun b same => by cases same; obtain ⟨o, ho, hx, _⟩ := raw; exact ⟨o, ho, hx.2.1⟩), ?_⟩
  have inv2 : Inv X pins vars H1 { s1 with heap := s1.heap.push { cls := .type "dict_values", data := .fields #[.ref d] } } := inv1.kept (t' := s1.toks) fun b o q => Heap.get?_push_of_some _ q
  have fin : wpAny (model X.prog X.w) X.A (pyIter (.ref s1.heap.objs.size)) (PIE X pins vars tg R) X.xe { s1 with heap := s1.heap.push { cls := .type "dict_values", data := .fields #[.ref d] } } :=
    PySem.wpAny_pyIter_values_raw (d := d) ⟨_, Heap.get?_push_size _ rfl, rfl, rfl⟩ (raw.push _) (pi_one (tk := s1.toks) inv2 _ (turn_valsT _ dt sz) ⟨_, Heap.get?_push_size _ rfl, rfl, rfl⟩ q)
  show wpAny _ _ (callWith cpos (.builtin "dict.values") [.ref d] [] []) _ X.xe s1
  exact method_meetsIn F.slot_dict_values F.entry_dict_values rfl (PySem.evalArgs_none ⟨rfl, raw.typeIs, F.args_dict_values_1 _, _, PySem.meets_dict_values_raw d lo, ⟨es, ep, raw⟩, fin⟩)
/-! ### d.keys(), list of it, the keys of d tuples -/
def keysO (p d : Addr) : HO := .ext fun h => PySem.W.KdlKeysView h p d
def tKeysT (td : TE) : TE := fun vars H Q => td vars H fun x H1 => ∃ d kvs, x = .ref d ∧ H1 d = some (.dT kvs) ∧ ∀ p, H1 p = none → Q (.ref p) (upd H1 p (keysO p d))
theorem pe_keysT {e : Expr} {td : TE} {apos cpos : Pos} (pe : PE X e td) (base : attributeBase e "keys" X.env (eval e X.env) = eval e X.env := by rfl) (line : (apos.endLine == cpos.line) = true := by rfl) :
    PE X (.Call (.Attribute e "keys" apos) [] [] cpos) (tKeysT td) := by
  refine ⟨fun pins sh vars H Q inv ask => wpAny_Call_method (T := "dict") (id := "dict.keys") base rfl line F.plainAttrs_dict F.slot_dict_keys F.type_dict_keys (thn (pe.run pins sh vars H _ inv ask) fun u s1 ⟨x, H1, inv1, rx, d, kvs, ex, at', q⟩ => ?_)⟩
  subst ex
  obtain rfl : u = Value.ref d := rx
  obtain ⟨_, lo, _, _, o, es, ep, here, ex, dt, _⟩ := dt_of inv1.hok at'
  have raw : s1.heap.DictRaw d es ep := ⟨o, here, ex, dt⟩
  refine ⟨raw.typeIs, (fun b same => by cases same; exact ⟨o, here, ex.2.1⟩), ?_⟩
  have own : (s1.heap.push { cls := .type "dict_keys", data := .fields #[.ref d] }).get? s1.heap.objs.size = some { cls := .type "dict_keys", data := .fields #[.ref d] } := Heap.get?_push_size _ rfl
  have fin : EP X pins vars Q (.ref s1.heap.objs.size) { s1 with heap := s1.heap.push { cls := .type "dict_keys", data := .fields #[.ref d] } } :=
    ⟨.ref _, _, inv1.laid (o := keysO s1.heap.objs.size d) (t' := s1.toks) (fun b u e => Heap.get?_push_of_some _ e) (Nat.le_refl _) ⟨⟨_, own, rfl, rfl⟩, ⟨_, own⟩, fun h1 h2 v k => have ⟨o, ho, r⟩ := v; ⟨o, k o ho, r⟩⟩, rfl, q _ (inv1.hok.fresh (Nat.le_refl _))⟩
  show wpAny _ _ (callWith cpos (.builtin "dict.keys") [.ref d] [] []) _ X.xe s1
  exact method_meetsIn F.slot_dict_keys F.entry_dict_keys rfl (PySem.evalArgs_none ⟨rfl, raw.typeIs, F.args_dict_keys_1 _, _, PySem.meets_dict_keys_raw d lo, ⟨es, ep, raw⟩, fin⟩)
def rListKeysT : List V → Hp → VK → Prop := fun xs H Q => ∃ p d kvs, xs = [.ref p] ∧ H p = some (keysO p d) ∧ H d = some (.dT kvs) ∧ ∀ q bs, H q = none → IsKeys H kvs bs → Q (.ref q) (upd H q (.lst (bs.map V.ref)))
theorem cr_listKeysT (calm : X.calm = true) : CallR X (.type "list") rListKeysT := by
  intro pins sh vars H xs us Q inv rel ask
  obtain ⟨p, d, kvs, rfl, view, at', wish⟩ := ask
  obtain ⟨u, rfl, ru⟩ := rel.one
  cases ru
  have isView : PySem.W.KdlKeysView sh.heap p d := (inv.hok p _ view).1
  obtain ⟨most, lo, ks, pr, o, es, ep, here, ex, dt, ents, nd⟩ := (show ObjOk X.prog X.w H sh.heap d (.dT kvs) from inv.hok d _ at')
  have l1 : es.size = ks.length := size_of_entries ents
  have l2 : kvs.length = ks.length := Paired.length pr
  refine PySem.W.kdl_call (PySem.KdlSrc.rawKeys (d := d) (r := p) (es := es) (ep := ep)) (inv.ok.hd calm) ⟨isView, o, here, ex, dt⟩ (by omega) fun hp tk acc c kept own its => ?_
  have got : acc.toList = (ks.map fun t => t.2.1).map Value.ref := keys_gathered ents ⟨its.1, fun i v at'' => have ⟨lt, e⟩ := its.2 i v at''; ⟨_, Array.getElem?_eq_getElem lt, e⟩⟩
  have rv : Vals ((ks.map fun x => x.2.1).map V.ref) acc.toList := got ▸ vals_refs _
  have short : ((ks.map fun x => x.2.1).map V.ref).length ≤ sizeLine := by rw [List.length_map, List.length_map]; omega
  refine ⟨.ref sh.heap.objs.size, _, inv.laid (t' := tk) (o := .lst ((ks.map fun x => x.2.1).map V.ref)) kept (Nat.le_refl _) ?_, rfl, wish _ _ (inv.hok.fresh (Nat.le_refl _)) (isKeys_of pr)⟩
  exact ⟨short, acc.toList, c, rv, by rw [Array.toArray_toList]; exact own⟩
end
end OG

set_option Elab.async false
set_option linter.all false
set_option maxRecDepth 100000
set_option maxHeartbeats 4000000
namespace OG
open PySem PySem.Spec PyProof.Rows L2
/-! ### the terms of one row less those of another, as a dict -/
def getT : List Term → Int × Int → Option (Int × Int)
  | [], _ => none
  | t :: r, k => if t.1 = k then some t.2 else getT r k
def setT : List Term → Int × Int → Int × Int → List Term
  | [], k, p => [(k, p)]
  | t :: r, k, p => if t.1 = k then (k, p) :: r else t :: setT r k p
def lessP (o p : Int × Int) : Int × Int := lowOf (o.1 * p.2 + (-p.1) * o.2) (o.2 * p.2)
def stepT (ds : List Term) (t : Term) : List Term := setT ds t.1 (lessP ((getT ds t.1).getD (0, 1)) t.2)
def lessT (ts1 ts2 : List Term) : List Term := (ts2.foldl stepT ts1).filter fun t => decide (t.2 ≠ (0, 1))
theorem V2_set (n : Int) (k p : Int × Int) : ∀ ds : List Term, V2 (setT ds k p) n = V2 ds n + (v2 p - v2 ((getT ds k).getD (0, 1))) * n ^ k.1.toNat
  | [] => by
    show v2 p * n ^ k.1.toNat + 0 = 0 + (v2 p - 0 * (2 / 1)) * n ^ k.1.toNat
    grind
  | t :: r => by
    unfold setT getT
    by_cases h : t.1 = k
    · rw [if_pos h, if_pos h]
      show v2 p * n ^ k.1.toNat + V2 r n = v2 t.2 * n ^ t.1.1.toNat + V2 r n + (v2 p - v2 t.2) * n ^ k.1.toNat
      rw [h]
      grind
    · rw [if_neg h, if_neg h]
      show v2 t.2 * n ^ t.1.1.toNat + V2 (setT r k p) n = v2 t.2 * n ^ t.1.1.toNat + V2 r n + _
      rw [V2_set n k p r]
      grind
theorem set_new {k p : Int × Int} : ∀ {ds : List Term}, (∀ x ∈ ds, x.1 ≠ k) → setT ds k p = ds ++ [(k, p)]
  | [], _ => rfl
  | x :: r, h => by
    unfold setT
    rw [if_neg (h x List.mem_cons_self), set_new fun y hy => h y (List.mem_cons_of_mem _ hy)]
    rfl
theorem mem_set {k p : Int × Int} : ∀ {ds : List Term} {t : Term}, t ∈ setT ds k p → t = (k, p) ∨ t ∈ ds
  | [], t, h => .inl (List.mem_singleton.mp h)
  | x :: r, t, h => by
    unfold setT at h
    split at h
    · rcases List.mem_cons.mp h with e | e
      · exact .inl e
      · exact .inr (List.mem_cons_of_mem _ e)
    · rcases List.mem_cons.mp h with e | e
      · exact .inr (e ▸ List.mem_cons_self)
      · rcases mem_set e with f | f
        · exact .inl f
        · exact .inr (List.mem_cons_of_mem _ f)
theorem get_mem {k o : Int × Int} : ∀ {ds : List Term}, getT ds k = some o → (k, o) ∈ ds
  | [], h => nomatch h
  | x :: r, h => by
    unfold getT at h
    split at h
    · rename_i e
      cases h
      rw [← e]
      exact List.mem_cons_self
    · exact List.mem_cons_of_mem _ (get_mem h)
theorem get_at : ∀ {ds : List Term} {i : Nat} {t : Term}, (ds.map (·.1)).Nodup → ds[i]? = some t → getT ds t.1 = some t.2
  | x :: r, 0, t, _, h => by
    cases h
    unfold getT
    exact if_pos rfl
  | x :: r, i + 1, t, nd, h => by
    obtain ⟨n1, n2⟩ := List.nodup_cons.mp nd
    have h' : r[i]? = some t := h
    unfold getT
    rw [if_neg fun z => n1 (List.mem_map.mpr ⟨t, List.mem_of_getElem? h', z.symm⟩)]
    exact get_at n2 h'
  | [], _, _, _, h => by simp at h
theorem take_apart : ∀ {ds : List Term} {i : Nat} {t : Term}, (ds.map (·.1)).Nodup → ds[i]? = some t → ∀ x ∈ ds.take i, x.1 ≠ t.1
  | _, 0, _, _, _ => fun x hx => by simp at hx
  | y :: r, i + 1, t, nd, h => fun x hx => by
    obtain ⟨n1, n2⟩ := List.nodup_cons.mp nd
    have h' : r[i]? = some t := h
    rw [List.take_succ_cons] at hx
    rcases List.mem_cons.mp hx with e | e
    · exact fun z => n1 (List.mem_map.mpr ⟨t, List.mem_of_getElem? h', z.symm.trans (e ▸ rfl)⟩)
    · exact take_apart n2 h' x e
  | [], _ + 1, _, _, h => by simp at h
theorem eqv_p2 (a b c d : Int) : PyData.eqv (.tuple [.int a, .int b]) (.tuple [.int c, .int d]) = decide ((a, b) = (c, d)) := by
  by_cases h1 : a = c <;> by_cases h2 : b = d <;> simp [PyData.eqv, PyData.eqvAll, h1, h2]
theorem keys_set {k p : Int × Int} {ds : List Term} {j : Int × Int} (h : j ∈ (setT ds k p).map (·.1)) : j = k ∨ j ∈ ds.map (·.1) := by
  obtain ⟨t, ht, rfl⟩ := List.mem_map.mp h
  rcases mem_set ht with e | e
  · exact .inl (e ▸ rfl)
  · exact .inr (List.mem_map.mpr ⟨t, e, rfl⟩)
theorem nodup_set {k p : Int × Int} : ∀ {ds : List Term}, (ds.map (·.1)).Nodup → ((setT ds k p).map (·.1)).Nodup
  | [], _ => by simp [setT]
  | x :: r, h => by
    obtain ⟨h1, h2⟩ := List.nodup_cons.mp h
    unfold setT
    split
    · rename_i e
      exact List.nodup_cons.mpr ⟨e ▸ h1, h2⟩
    · rename_i e
      refine List.nodup_cons.mpr ⟨fun m => ?_, nodup_set h2⟩
      rcases keys_set m with f | f
      · exact e f
      · exact h1 f
theorem low_get {ds : List Term} (h : ∀ t ∈ ds, Low2 t) (k : Int × Int) : ((getT ds k).getD (0, 1)).2 = 1 ∨ ((getT ds k).getD (0, 1)).2 = 2 := by
  cases e : getT ds k with
  | none => exact .inl rfl
  | some o => exact (h _ (get_mem e)).2
theorem step_V2 {ds : List Term} {t : Term} (h : ∀ t ∈ ds, Low2 t) (ht : Low2 t) (n : Int) : V2 (stepT ds t) n = V2 ds n - v2 t.2 * n ^ t.1.1.toNat := by
  have hl : v2 (lessP ((getT ds t.1).getD (0, 1)) t.2) = _ := (less_part (low_get h t.1) ht.2).2.1
  rw [stepT, V2_set, hl]
  grind
theorem step_low {ds : List Term} {t : Term} (h : ∀ t ∈ ds, Low2 t) (ht : Low2 t) : ∀ x ∈ stepT ds t, Low2 x := fun x hx => by
  rcases mem_set hx with e | e
  · rw [e]
    exact ⟨ht.1, (less_part (low_get h t.1) ht.2).1⟩
  · exact h x e
/-- what holds all along: unders 1 or 2, keys apart and at most b, noughts written (0, 1) -/
structure DOk (b : Int) (ds : List Term) : Prop where
  low : ∀ t ∈ ds, Low2 t
  apart : (ds.map (·.1)).Nodup
  keys : ∀ t ∈ ds, 0 ≤ t.1.1 ∧ t.1.1 ≤ b
  zero : ∀ t ∈ ds, v2 t.2 = 0 → t.2 = (0, 1)
theorem step_ok {b : Int} {ds : List Term} {t : Term} (h : DOk b ds) (ht : Low2 t) (hb : 0 ≤ t.1.1 ∧ t.1.1 ≤ b) : DOk b (stepT ds t) := by
  have lp := less_part (low_get h.low t.1) ht.2
  refine ⟨step_low h.low ht, nodup_set h.apart, fun x hx => ?_, fun x hx => ?_⟩
  · rcases mem_set hx with e | e
    · rw [e]
      exact hb
    · exact h.keys x e
  · rcases mem_set hx with e | e
    · rw [e]
      exact lp.2.2.mpr
    · exact h.zero x e
theorem fold_ok {b : Int} : ∀ (ts : List Term) (ds : List Term), DOk b ds → (∀ t ∈ ts, Low2 t) → (∀ t ∈ ts, 0 ≤ t.1.1 ∧ t.1.1 ≤ b) → DOk b (ts.foldl stepT ds) ∧ ∀ n, V2 (ts.foldl stepT ds) n = V2 ds n - V2 ts n
  | [], ds, h, _, _ => ⟨h, fun n => (Int.sub_zero _).symm⟩
  | t :: r, ds, h, hl, hb => by
    obtain ⟨h1, h2⟩ := fold_ok r (stepT ds t) (step_ok h (hl t List.mem_cons_self) (hb t List.mem_cons_self)) (fun x hx => hl x (List.mem_cons_of_mem _ hx)) fun x hx => hb x (List.mem_cons_of_mem _ hx)
    refine ⟨h1, fun n => ?_⟩
    show V2 (r.foldl stepT (stepT ds t)) n = V2 ds n - (v2 t.2 * n ^ t.1.1.toNat + V2 r n)
    rw [h2 n, step_V2 h.low (hl t List.mem_cons_self)]
    omega
theorem set_len (k p : Int × Int) : ∀ ds : List Term, (setT ds k p).length ≤ ds.length + 1
  | [] => Nat.le_refl _
  | x :: r => by
    unfold setT
    split
    · exact Nat.le_succ _
    · exact Nat.succ_le_succ (set_len k p r)
theorem fold_len : ∀ (ts ds : List Term), (ts.foldl stepT ds).length ≤ ds.length + ts.length
  | [], ds => Nat.le_refl _
  | t :: r, ds => by
    have h1 := fold_len r (stepT ds t)
    have h2 : (stepT ds t).length ≤ ds.length + 1 := set_len _ _ _
    show (r.foldl stepT (stepT ds t)).length ≤ ds.length + (r.length + 1)
    omega
theorem V2_filter (n : Int) : ∀ ds : List Term, V2 (ds.filter fun t => decide (t.2 ≠ (0, 1))) n = V2 ds n
  | [] => rfl
  | t :: r => by
    by_cases h : t.2 = (0, 1)
    · rw [List.filter_cons_of_neg (by simp [h]), V2_filter n r]
      show V2 r n = v2 t.2 * n ^ t.1.1.toNat + V2 r n
      rw [h]
      show V2 r n = 0 * (2 / 1) * _ + V2 r n
      rw [Int.zero_mul, Int.zero_mul, Int.zero_add]
    · rw [List.filter_cons_of_pos (by simp [h])]
      show v2 t.2 * n ^ t.1.1.toNat + V2 _ n = v2 t.2 * n ^ t.1.1.toNat + V2 r n
      rw [V2_filter n r]
theorem lessT_ok {b : Int} {ts1 ts2 : List Term} (h1 : DOk b ts1) (l2 : ∀ t ∈ ts2, Low2 t) (b2 : ∀ t ∈ ts2, 0 ≤ t.1.1 ∧ t.1.1 ≤ b) :
    DOk b (lessT ts1 ts2) ∧ (∀ t ∈ lessT ts1 ts2, v2 t.2 ≠ 0) ∧ ∀ n, V2 (lessT ts1 ts2) n = V2 ts1 n - V2 ts2 n := by
  obtain ⟨ok, val⟩ := fold_ok ts2 ts1 h1 l2 b2
  have mem : ∀ {t}, t ∈ lessT ts1 ts2 → t ∈ ts2.foldl stepT ts1 ∧ t.2 ≠ (0, 1) := fun h => have ⟨a, b⟩ := List.mem_filter.mp h; ⟨a, of_decide_eq_true b⟩
  refine ⟨⟨fun t ht => ok.low t (mem ht).1, ?_, fun t ht => ok.keys t (mem ht).1, fun t ht => ok.zero t (mem ht).1⟩, fun t ht e => (mem ht).2 (ok.zero t (mem ht).1 e), fun n => (V2_filter n _).trans (val n)⟩
  exact (List.Sublist.map _ List.filter_sublist).nodup ok.apart
/-! ### such a dict on the heap -/
def PD (H : Hp) : List (List L2.Key × V) → List Term → Prop
  | [], [] => True
  | p :: ps, t :: ts => p.1 = pairK t.1 ∧ Rp H p.2 (encP t.2) ∧ PD H ps ts
  | _, _ => False
theorem PD.len {H : Hp} : ∀ {ps ts}, PD H ps ts → ps.length = ts.length
  | [], [], _ => rfl
  | _ :: _, _ :: _, h => congrArg (· + 1) h.2.2.len
  | [], _ :: _, h => h.elim
  | _ :: _, [], h => h.elim
theorem PD.to {H H' : Hp} (i : Imm H H') : ∀ {ps ts}, PD H ps ts → PD H' ps ts
  | [], [], _ => True.intro
  | _ :: _, _ :: _, h => ⟨h.1, h.2.1.to i, h.2.2.to i⟩
  | [], _ :: _, h => h.elim
  | _ :: _, [], h => h.elim
theorem PD.get {H : Hp} : ∀ {ps ts} {i : Nat} {p : List L2.Key × V}, PD H ps ts → ps[i]? = some p → ∃ t, ts[i]? = some t ∧ p.1 = pairK t.1 ∧ Rp H p.2 (encP t.2)
  | _ :: _, t :: _, 0, p, h, e => by
    cases e
    exact ⟨t, rfl, h.1, h.2.1⟩
  | _ :: _, _ :: _, i + 1, p, h, e => h.2.2.get (i := i) e
  | [], _, _, _, _, e => by simp at e
  | _ :: _, [], _, _, h, _ => h.elim
theorem PD.val {H : Hp} (k : Int × Int) : ∀ {ps ts}, PD H ps ts → (getT ts k = none → valV ps (pairK k) = none) ∧ ∀ o, getT ts k = some o → ∃ v, valV ps (pairK k) = some v ∧ Rp H v (encP o)
  | [], [], _ => ⟨(fun _ => rfl), (fun _ h => nomatch h)⟩
  | p :: ps, t :: ts, h => by
    unfold getT
    by_cases e : t.1 = k
    · rw [if_pos e]
      exact ⟨(fun z => nomatch z), fun o ho => ⟨p.2, valV_pos (h.1.trans (e ▸ rfl)), by cases ho; exact h.2.1⟩⟩
    · rw [if_neg e]
      have ne : p.1 ≠ pairK k := fun z => e (pairK_inj (h.1.symm.trans z))
      have e2 : valV (p :: ps) (pairK k) = valV ps (pairK k) := by
        unfold valV
        rw [List.find?_cons_of_neg (by simpa using ne)]
      rw [e2]
      exact h.2.2.val k
  | [], _ :: _, h => h.elim
  | _ :: _, [], h => h.elim
theorem putK_step {p : List L2.Key × V} {ps : List (List L2.Key × V)} {k : List L2.Key} {v : V} (ne : p.1 ≠ k) : putK (p :: ps) k v = p :: putK ps k v := by
  unfold putK
  rw [List.any_cons, decide_eq_false ne, Bool.false_or]
  split
  · rw [List.map_cons, if_neg ne]
  · rfl
theorem PD.put {H : Hp} {k o : Int × Int} {v : V} (hv : Rp H v (encP o)) : ∀ {ps ts}, PD H ps ts → (ts.map (·.1)).Nodup → PD H (putK ps (pairK k) v) (setT ts k o)
  | [], [], _, _ => ⟨rfl, hv, True.intro⟩
  | p :: ps, t :: ts, h, nd => by
    obtain ⟨n1, n2⟩ := List.nodup_cons.mp nd
    unfold setT
    by_cases e : t.1 = k
    · rw [if_pos e]
      have hk : p.1 = pairK k := h.1.trans (e ▸ rfl)
      have away : ∀ q ∈ ps, q.1 ≠ pairK k := fun q hq z => by
        obtain ⟨i, hi⟩ := List.getElem?_of_mem hq
        obtain ⟨t', ht', e', _⟩ := h.2.2.get hi
        exact n1 (List.mem_map.mpr ⟨t', List.mem_of_getElem? ht', (pairK_inj (e'.symm.trans z)).trans e.symm⟩)
      have same : putK (p :: ps) (pairK k) v = (p.1, v) :: ps := by
        unfold putK
        rw [if_pos (by rw [List.any_cons, decide_eq_true hk]; rfl), List.map_cons, if_pos hk]
        refine congrArg _ ((List.map_congr_left fun q hq => if_neg (away q hq)).trans (List.map_id _))
      rw [same]
      exact ⟨hk, hv, h.2.2⟩
    · rw [if_neg e, putK_step fun z => e (pairK_inj (h.1.symm.trans z))]
      exact ⟨h.1, h.2.1, h.2.2.put hv n2⟩
  | [], _ :: _, h, _ => h.elim
  | _ :: _, [], h, _ => h.elim
/-- over the keys of a locked dict -/
theorem dcT_keys {d : Addr} {ob : Obj} {kvs : List (List L2.Key × V)} {g : TG} {tt : TT} {tk tv : TE} {vs : List Nat} {vars : L2.St} {H1 : Hp} {D : Addr} {Qd : Hp → Prop} (Pv : Nat → Hp → Prop) (h0 : Pv 0 (upd H1 D (.dT []))) (lk : ∀ i H, Pv i H → H d = some (.frz ob (.dT kvs)))
    (hs : ∀ (i : Nat) (k : List L2.Key) (v : V) (c : Addr) (H : Hp), kvs[i]? = some (k, v) → H c = some (.tup (k.map kV)) → Pv i H → dTurn g tt tk tv vs vars D (Pv (i + 1)) (.ref c) H) (hd : ∀ H, Pv kvs.length H → Qd H) :
    ∃ W : Nat → Nat → Hp → Prop, (∃ m, W 0 m (upd H1 D (.dT []))) ∧ ∀ i m H, W i m H → ((Itkt d ob kvs).stop i H ∧ Qd H) ∨
      ((Itkt d ob kvs).go i H ∧ ∃ Nx : Hp → Prop, (∀ H', Nx H' → ∃ m', m' < m ∧ W (i + 1) m' H') ∧ ∀ x H', (Itkt d ob kvs).yld i H x H' → dTurn g tt tk tv vs vars D Nx x H') := by
  refine ⟨fun i m H => m + i = kvs.length ∧ Pv i H, ⟨kvs.length, rfl, h0⟩, ?_⟩
  rintro i m H ⟨sum, p⟩
  cases m with
  | zero =>
    obtain rfl : i = kvs.length := by omega
    exact .inl ⟨⟨lk _ H p, Nat.le_refl _⟩, hd H p⟩
  | succ m =>
    refine .inr ⟨⟨lk i H p, by omega⟩, Pv (i + 1), fun H' p' => ⟨m, Nat.lt_succ_self m, by omega, p'⟩, fun x H' y => ?_⟩
    obtain ⟨rfl, k, v, c, at', rfl, hc⟩ := y
    exact hs i k v c _ at' hc p
/-- the dict at F holds these terms -/
def DAt (H : Hp) (F : Addr) (ds : List Term) : Prop := ∃ kvs, H F = some (.dT kvs) ∧ PD H kvs ds
/-- one terms_less: the unders 1 or 2, no figures, powers at most 3 -/
def spTermsLess : Sp := fun vs H Q _ => ∃ (l1 l2 : Addr) (ts1 ts2 : List Term), vs = [.ref l1, .ref l2] ∧ TermsAt H l1 ts1 ∧ TermsAt H l2 ts2 ∧ DOk 3 ts1 ∧ DOk 3 ts2 ∧ ts1.length ≤ 100 ∧ ts2.length ≤ 100 ∧
  ∀ F H', Same H H' → DAt H' F (lessT ts1 ts2) → H F = none → Q (.ref F) H'
end OG

set_option Elab.async false
set_option linter.all false
set_option maxRecDepth 100000
set_option maxHeartbeats 4000000
namespace OG
open PySem PySem.Spec PyProof.Rows L2
/-! ### the powers of a stretch, whole -/
def wpw (m : Int) (ts : List Term) : Pw := ts.map fun t => (t.1.1.toNat, [t.2.1 * (m / t.2.2)])
def spWholeP : Sp := fun vs H Q _ => ∃ (F : Addr) (ds : List Term), vs = [.ref F] ∧ DAt H F ds ∧ DOk 3 ds ∧ (∀ t ∈ ds, v2 t.2 ≠ 0) ∧ (∀ t ∈ ds, t.2.1.natAbs < 2 ^ 18) ∧ ds.length ≤ 200 ∧
  ∀ (S : Addr) (m : Int) (ts : List Term) (H' : Hp), Same H H' → H S = none → PwAt H' S (wpw m ts) → (m = 1 ∨ m = 2) → (∀ t ∈ ds, t.2.2 ∣ m) → ts.Perm ds → ts.Pairwise (fun x y => y.1.1 < x.1.1) → Q (.ref S) H'
/-- a list comprehension over any iterator of n things -/
theorem lc_walk {J : It} {n : Nat} {g : TG} {tt : TT} {te : TE} {vs : List Nat} {vars : L2.St} {H1 : Hp} {D : Addr} {Qd : Hp → Prop} (Pv : Nat → Hp → Prop) (h0 : Pv 0 (upd H1 D (.lst []))) (go : ∀ i H, i < n → Pv i H → J.go i H) (stop : ∀ H, Pv n H → J.stop n H)
    (hs : ∀ i x H H', i < n → Pv i H → J.yld i H x H' → (g x (wipe vars vs) H' fun vars2 H2 => wipe vars2 vs = wipe vars vs ∧ tt vars2 H2 fun b H3 => if b = true then te vars2 H3 fun y H4 => ∃ acc, H4 D = some (.lst acc) ∧ acc.length < sizeLine ∧ Pv (i + 1) (upd H4 D (.lst (acc ++ [y]))) else Pv (i + 1) H3)) (hd : ∀ H, Pv n H → Qd H) :
    ∃ W : Nat → Nat → Hp → Prop, (∃ m, W 0 m (upd H1 D (.lst []))) ∧ ∀ i m H, W i m H → (J.stop i H ∧ Qd H) ∨
      (J.go i H ∧ ∃ Nx : Hp → Prop, (∀ H', Nx H' → ∃ m', m' < m ∧ W (i + 1) m' H') ∧ ∀ x H', J.yld i H x H' → (g x (wipe vars vs) H' fun vars2 H2 => wipe vars2 vs = wipe vars vs ∧ tt vars2 H2 fun b H3 => if b = true then te vars2 H3 fun y H4 => ∃ acc, H4 D = some (.lst acc) ∧ acc.length < sizeLine ∧ Nx (upd H4 D (.lst (acc ++ [y]))) else Nx H3)) := by
  refine ⟨fun i m H => m + i = n ∧ Pv i H, ⟨n, rfl, h0⟩, ?_⟩
  rintro i m H ⟨sum, p⟩
  cases m with
  | zero =>
    obtain rfl : i = n := by omega
    exact .inl ⟨stop H p, hd H p⟩
  | succ m => exact .inr ⟨go i H (by omega) p, Pv (i + 1), fun H' p' => ⟨m, Nat.lt_succ_self m, by omega, p'⟩, fun x H' y => hs i x H H' (by omega) p y⟩
theorem PD.keys {H : Hp} : ∀ {ps ts}, PD H ps ts → ps.map (·.1) = (ts.map (·.1)).map pairK
  | [], [], _ => rfl
  | _ :: _, _ :: _, h => by
    rw [List.map_cons, List.map_cons, List.map_cons, h.1, h.2.2.keys]
  | [], _ :: _, h => h.elim
  | _ :: _, [], h => h.elim
/-- the terms of these keys -/
def tsOf (ds : List Term) (ks : List (Int × Int)) : List Term := ks.map fun k => (k, (getT ds k).getD (0, 1))
theorem tsOf_perm {ds : List Term} {ks : List (Int × Int)} (nd : (ds.map (·.1)).Nodup) (p : ks.Perm (ds.map (·.1))) : (tsOf ds ks).Perm ds := by
  refine (p.map _).trans (List.Perm.of_eq ?_)
  rw [List.map_map]
  refine (List.map_congr_left fun t ht => ?_).trans (List.map_id _)
  obtain ⟨i, hi⟩ := List.getElem?_of_mem ht
  show (t.1, (getT ds t.1).getD (0, 1)) = t
  rw [get_at nd hi]
  rfl
theorem tsOf_falls {ds : List Term} {ks : List (Int × Int)} (nd : ks.Nodup) (z : ∀ k ∈ ks, k.2 = 0) (s : ks.Pairwise fun a b => SrtO.lexB b a = false) : (tsOf ds ks.reverse).Pairwise fun x y => y.1.1 < x.1.1 := by
  refine List.pairwise_map.mpr (List.pairwise_reverse.mpr ?_)
  refine (List.Pairwise.imp₂ (R := fun a b => SrtO.lexB b a = false) (S := fun a b => a ≠ b) (T := fun a b => ¬ (a.2 = 0 ∧ b.2 = 0) ∨ a.1 < b.1) (fun a b x y => ?_) s nd).imp_of_mem fun ha hb h => ?_
  · have n := SrtO.lexB_no.mp x
    have ne : ¬ (a.1 = b.1 ∧ a.2 = b.2) := fun z => y (Prod.ext z.1 z.2)
    omega
  · have h1 := z _ ha
    have h2 := z _ hb
    rcases h with h | h
    · exact absurd ⟨h1, h2⟩ h
    · exact h
/-- the dict of polynomials, power by power -/
def GP (H : Hp) (m : Int) : List (L2.Key × V) → List Term → Prop
  | [], [] => True
  | p :: ps, t :: ts => p.1 = .inl t.1.1 ∧ (∃ b, p.2 = .ref b ∧ LAt H b [t.2.1 * (m / t.2.2)]) ∧ GP H m ps ts
  | _, _ => False
theorem GP.len {H : Hp} {m : Int} : ∀ {ps ts}, GP H m ps ts → ps.length = ts.length
  | [], [], _ => rfl
  | _ :: _, _ :: _, h => congrArg (· + 1) h.2.2.len
  | [], _ :: _, h => h.elim
  | _ :: _, [], h => h.elim
/-- lists stay -/
theorem GP.to {H H' : Hp} {m : Int} (i : ∀ b xs, H b = some (.lst xs) → H' b = some (.lst xs)) : ∀ {ps ts}, GP H m ps ts → GP H' m ps ts
  | [], [], _ => True.intro
  | _ :: _, _ :: _, h => ⟨h.1, (have ⟨b, e, l⟩ := h.2.1; ⟨b, e, i _ _ l⟩), h.2.2.to i⟩
  | [], _ :: _, h => h.elim
  | _ :: _, [], h => h.elim
theorem GP.snoc {H : Hp} {m : Int} {t : Term} {b : Addr} (l : LAt H b [t.2.1 * (m / t.2.2)]) : ∀ {ps ts}, GP H m ps ts → GP H m (ps ++ [(.inl t.1.1, .ref b)]) (ts ++ [t])
  | [], [], _ => ⟨rfl, ⟨b, rfl, l⟩, True.intro⟩
  | _ :: _, _ :: _, h => ⟨h.1, h.2.1, h.2.2.snoc l⟩
  | [], _ :: _, h => h.elim
  | _ :: _, [], h => h.elim
theorem GP.get {H : Hp} {m : Int} : ∀ {ps ts} {i : Nat} {p : L2.Key × V}, GP H m ps ts → ps[i]? = some p → ∃ t b, ts[i]? = some t ∧ p = (.inl t.1.1, .ref b) ∧ LAt H b [t.2.1 * (m / t.2.2)]
  | _ :: _, t :: _, 0, p, h, e => by
    cases e
    obtain ⟨h1, ⟨b, h2, h3⟩, _⟩ := h
    exact ⟨t, b, rfl, Prod.ext h1 h2, h3⟩
  | _ :: _, _ :: _, i + 1, p, h, e => h.2.2.get (i := i) e
  | [], _, _, _, _, e => by simp at e
  | _ :: _, [], _, _, h, _ => h.elim
/-- a power that is not there yet -/
theorem GP.fresh {H : Hp} {m k : Int} : ∀ {ps ts}, GP H m ps ts → (∀ t ∈ ts, t.1.1 ≠ k) → valV ps (.inl k) = none
  | [], [], _, _ => rfl
  | p :: ps, t :: ts, h, n => by
    have ne : p.1 ≠ .inl k := fun z => n t List.mem_cons_self (Sum.inl.inj (h.1.symm.trans z))
    have e : valV (p :: ps) (.inl k) = valV ps (.inl k) := by
      unfold valV
      rw [List.find?_cons_of_neg (by simpa using ne)]
    rw [e]
    exact h.2.2.fresh fun x hx => n x (List.mem_cons_of_mem _ hx)
  | [], _ :: _, h, _ => h.elim
  | _ :: _, [], h, _ => h.elim
theorem GP.valAt {H : Hp} {m : Int} : ∀ {ps ts} {i : Nat} {p : L2.Key × V}, GP H m ps ts → (ts.map (·.1.1)).Nodup → ps[i]? = some p → valV ps p.1 = some p.2
  | _ :: _, _ :: _, 0, p, _, _, e => by
    cases e
    exact valV_pos rfl
  | p0 :: ps, t :: ts, i + 1, p, h, nd, e => by
    obtain ⟨n1, n2⟩ := List.nodup_cons.mp nd
    have e' : ps[i]? = some p := e
    obtain ⟨t', b, ht', ep, _⟩ := h.2.2.get e'
    have ne : p0.1 ≠ p.1 := fun z => by
      rw [h.1, ep] at z
      exact n1 (List.mem_map.mpr ⟨t', List.mem_of_getElem? ht', (Sum.inl.inj z).symm⟩)
    have e2 : valV (p0 :: ps) p.1 = valV ps p.1 := by
      unfold valV
      rw [List.find?_cons_of_neg (by simpa using ne)]
    rw [e2]
    exact h.2.2.valAt n2 e'
  | [], _, _, _, _, _, e => by simp at e
  | _ :: _, [], _, _, h, _, _ => h.elim
end OG
namespace OG
theorem V2_perm {ts us : List Term} (p : ts.Perm us) (n : Int) : V2 ts n = V2 us n := by
  induction p with
  | nil => rfl
  | cons x _ ih => exact congrArg (v2 x.2 * n ^ x.1.1.toNat + ·) ih
  | swap x y l =>
    show v2 y.2 * n ^ y.1.1.toNat + (v2 x.2 * n ^ x.1.1.toNat + V2 l n) = v2 x.2 * n ^ x.1.1.toNat + (v2 y.2 * n ^ y.1.1.toNat + V2 l n)
    omega
  | trans _ _ h1 h2 => exact h1.trans h2
/-- the powers taken times m are m / 2 of twice the worth -/
theorem v2_whole {o : Int × Int} {m : Int} (ho : o.2 = 1 ∨ o.2 = 2) (hm : m = 1 ∨ m = 2) (d : o.2 ∣ m) : m * v2 o = 2 * (o.1 * (m / o.2)) := by
  obtain ⟨a, b⟩ := o
  have e1 : v2 (a, b) = a * (2 / b) := rfl
  rw [e1]
  show m * (a * (2 / b)) = 2 * (a * (m / b))
  have hb : b = 1 ∨ b = 2 := ho
  have hd : b ∣ m := d
  rcases hb with rfl | rfl <;> rcases hm with rfl | rfl
  · show 1 * (a * 2) = 2 * (a * 1); omega
  · show 2 * (a * 2) = 2 * (a * 2); rfl
  · exact absurd hd (by decide)
  · show 2 * (a * 1) = 2 * (a * 1); rfl
end OG
namespace OG
theorem wpw_ev {m L n : Int} (hm : m = 1 ∨ m = 2) : ∀ {ts : List Term}, (∀ t ∈ ts, Low2 t ∧ t.2.2 ∣ m) → 2 * pwEv (wpw m ts) L n = m * V2 ts n
  | [], _ => by
    show 2 * (0 : Int) = m * 0
    omega
  | t :: r, h => by
    obtain ⟨hl, hd⟩ := h t List.mem_cons_self
    have ih := wpw_ev (L := L) (n := n) hm (ts := r) fun x hx => h x (List.mem_cons_of_mem _ hx)
    have e : pwEv (wpw m (t :: r)) L n = (t.2.1 * (m / t.2.2)) * n ^ t.1.1.toNat + pwEv (wpw m r) L n := by
      show pwEv ((t.1.1.toNat, [t.2.1 * (m / t.2.2)]) :: wpw m r) L n = _
      simp [pwEv, ev]
    have e2 : V2 (t :: r) n = v2 t.2 * n ^ t.1.1.toNat + V2 r n := rfl
    have e3 := v2_whole hl.2 hm hd
    rw [e, e2]
    grind
end OG
namespace OG
theorem fold_bound {c : Nat} : ∀ (ts ds : List Term) (B : Nat), (∀ t ∈ ds, Low2 t) → (∀ t ∈ ts, Low2 t) → (∀ t ∈ ds, (v2 t.2).natAbs ≤ B) → (∀ t ∈ ts, (v2 t.2).natAbs ≤ c) → ∀ t ∈ ts.foldl stepT ds, (v2 t.2).natAbs ≤ B + c * ts.length
  | [], ds, B, _, _, hb, _ => fun t ht => Nat.le_trans (hb t ht) (Nat.le_add_right _ _)
  | t :: r, ds, B, l1, l2, hb, hc => fun x hx => by
    have lt := l2 t List.mem_cons_self
    have hv : v2 (lessP ((getT ds t.1).getD (0, 1)) t.2) = v2 ((getT ds t.1).getD (0, 1)) - v2 t.2 := (less_part (low_get l1 t.1) lt.2).2.1
    have ho : (v2 ((getT ds t.1).getD (0, 1))).natAbs ≤ B := by
      cases e : getT ds t.1 with
      | none => exact Nat.zero_le _
      | some o => exact hb _ (get_mem e)
    have hct := hc t List.mem_cons_self
    have := fold_bound r (stepT ds t) (B + c) (step_low l1 lt) (fun y hy => l2 y (List.mem_cons_of_mem _ hy)) (fun y hy => by
      rcases mem_set hy with e | e
      · rw [e]
        show (v2 (lessP _ _)).natAbs ≤ B + c
        rw [hv]
        omega
      · exact Nat.le_trans (hb y e) (Nat.le_add_right _ _)) (fun y hy => hc y (List.mem_cons_of_mem _ hy)) x hx
    have e : B + c * (t :: r).length = B + c + c * r.length := by
      rw [List.length_cons, Nat.mul_succ]
      omega
    rw [e]
    exact this
theorem over_le_v2 {o : Int × Int} (ho : o.2 = 1 ∨ o.2 = 2) : o.1.natAbs ≤ (v2 o).natAbs := by
  unfold v2
  rcases ho with e | e
  · rw [e]
    show o.1.natAbs ≤ (o.1 * 2).natAbs
    omega
  · rw [e]
    show o.1.natAbs ≤ (o.1 * 1).natAbs
    omega
end OG

set_option Elab.async false
set_option linter.all false
set_option maxRecDepth 100000
set_option maxHeartbeats 4000000
namespace OG
open PySem PySem.Spec PyProof.Rows L2
/-! ### the stretches of two sums -/
/-- terms that k17 draws -/
structure KTs (ts : List Term) : Prop where
  ok : DOk 3 ts
  few : ts.length ≤ 3
  small : ∀ t ∈ ts, (v2 t.2).natAbs ≤ 40
theorem kts_nil : KTs [] := ⟨⟨(fun _ h => nomatch h), List.Pairwise.nil, (fun _ h => nomatch h), fun _ h => nomatch h⟩, Nat.zero_le _, fun _ h => nomatch h⟩
theorem kts_of {ts : List Term} (h : ∀ t ∈ ts, TermOk 3 0 20 t) (hl : ts.length ≤ 3) (hf : Falls ts) : KTs ts := by
  have hb : ∀ t ∈ ts, Low2 t ∧ v2 t.2 ≠ 0 ∧ (v2 t.2).natAbs ≤ 40 := fun t ht => by
    have k := h t ht
    have f0 := k.f0
    have f1 := k.f1
    have u0 := k.u0
    have u1 := k.u1
    have nz := k.nz
    have o1 : t.2.1.natAbs ≤ 20 := k.o1
    have hu : t.2.2 = 1 ∨ t.2.2 = 2 := by omega
    refine ⟨⟨by omega, hu⟩, ?_⟩
    unfold v2
    rcases hu with e | e <;> rw [e]
    · show t.2.1 * 2 ≠ 0 ∧ (t.2.1 * 2).natAbs ≤ 40
      omega
    · show t.2.1 * 1 ≠ 0 ∧ (t.2.1 * 1).natAbs ≤ 40
      omega
  refine ⟨⟨fun t ht => (hb t ht).1, ?_, fun t ht => ⟨(h t ht).p0, (h t ht).p1⟩, fun t ht e => absurd e (hb t ht).2.1⟩, hl, fun t ht => (hb t ht).2.2⟩
  refine List.pairwise_map.mpr (hf.imp fun {x y} hxy e => ?_)
  have := SrtO.lexB_iff.mp hxy
  rw [e] at this
  omega
theorem rowTs_kts {rs : List Row} (h : RowsOk 3 0 20 rs) (n : Int) : KTs (rowTs rs n) := by
  unfold rowTs
  cases e : rs[rowIx rs n - 1]? with
  | none => exact kts_nil
  | some r =>
    obtain ⟨a, b, c⟩ := h.terms r (List.mem_of_getElem? e)
    exact kts_of a b c
/-- the powers of a stretch that begins at k -/
def StOf (rs1 rs2 : List Row) (k : Int) (pw : Pw) : Prop := ∃ (m : Int) (ts : List Term), pw = wpw m ts ∧ (m = 1 ∨ m = 2) ∧ (∀ t ∈ lessT (rowTs rs1 k) (rowTs rs2 k), t.2.2 ∣ m) ∧ ts.Perm (lessT (rowTs rs1 k) (rowTs rs2 k)) ∧ ts.Pairwise (fun x y => y.1.1 < x.1.1)
/-- what is known of the difference's terms -/
theorem less_facts {ts1 ts2 : List Term} (h1 : KTs ts1) (h2 : KTs ts2) : DOk 3 (lessT ts1 ts2) ∧ (∀ t ∈ lessT ts1 ts2, v2 t.2 ≠ 0) ∧ (∀ n, V2 (lessT ts1 ts2) n = V2 ts1 n - V2 ts2 n) ∧ (∀ t ∈ lessT ts1 ts2, t.2.1.natAbs ≤ 160) ∧ (lessT ts1 ts2).length ≤ 6 := by
  obtain ⟨a, b, c⟩ := lessT_ok h1.ok h2.ok.low h2.ok.keys
  refine ⟨a, b, c, fun t ht => ?_, ?_⟩
  · have hm := (List.mem_filter.mp ht).1
    have := fold_bound (c := 40) ts2 ts1 40 h1.ok.low h2.ok.low h1.small h2.small t hm
    have l := h2.few
    have e := over_le_v2 (a.low t ht).2
    omega
  · have l1 := List.length_filter_le (fun t : Term => decide (t.2 ≠ (0, 1))) (ts2.foldl stepT ts1)
    have l2 := fold_len ts2 ts1
    have := h1.few
    have := h2.few
    unfold lessT
    omega
theorem stOf_facts {rs1 rs2 : List Row} (h1 : RowsOk 3 0 20 rs1) (h2 : RowsOk 3 0 20 rs2) {k : Int} {pw : Pw} (h : StOf rs1 rs2 k pw) :
    PwOk pw ∧ pw.length ≤ 20 ∧ Flat1 pw ∧ (∀ p ∈ pw, p.1 ≤ 3) ∧ ∃ m : Int, 0 < m ∧ ∀ L n, 2 * pwEv pw L n = m * (V2 (rowTs rs1 k) n - V2 (rowTs rs2 k) n) := by
  obtain ⟨m, ts, rfl, hm, hd, hp, hf⟩ := h
  obtain ⟨ok, nz, val, sm, len⟩ := less_facts (rowTs_kts h1 k) (rowTs_kts h2 k)
  have key : ∀ p ∈ wpw m ts, ∃ t ∈ lessT (rowTs rs1 k) (rowTs rs2 k), p = (t.1.1.toNat, [t.2.1 * (m / t.2.2)]) := fun p hp' => by
    obtain ⟨t, ht, rfl⟩ := List.mem_map.mp hp'
    exact ⟨t, hp.mem_iff.mp ht, rfl⟩
  have three : ∀ p ∈ wpw m ts, p.1 ≤ 3 := fun p hp' => by
    obtain ⟨t, ht, rfl⟩ := key p hp'
    have := (ok.keys t ht).2
    show t.1.1.toNat ≤ 3
    omega
  refine ⟨⟨?_, fun p hp' => by have := three p hp'; omega⟩, ?_, fun p hp' => ?_, three, m, by omega, fun L n => ?_⟩
  · refine List.pairwise_map.mpr (hf.imp_of_mem fun {x y} hx hy hxy => ?_)
    have a := (ok.keys x (hp.mem_iff.mp hx)).1
    have b := (ok.keys y (hp.mem_iff.mp hy)).1
    show y.1.1.toNat < x.1.1.toNat
    omega
  · show (ts.map _).length ≤ 20
    rw [List.length_map, hp.length_eq]
    omega
  · obtain ⟨t, ht, rfl⟩ := key p hp'
    refine ⟨_, rfl, ?_, ?_⟩
    · have a := nz t ht
      have b := (ok.low t ht).2
      have c := hd t ht
      have e := v2_whole b hm c
      intro z
      rw [z] at e
      have : m * v2 t.2 ≠ 0 := Int.mul_ne_zero (by omega) a
      exact this (by rw [e]; rfl)
    · have a := sm t ht
      have b := (ok.low t ht).2
      have e20 : (2 : Nat) ^ 20 = 1048576 := by decide
      rw [e20]
      have q : m / t.2.2 = 0 ∨ m / t.2.2 = 1 ∨ m / t.2.2 = 2 := by
        rcases hm with rfl | rfl <;> rcases b with e | e <;> rw [e] <;> decide
      rcases q with q | q | q <;> rw [q] <;> omega
  · have e := wpw_ev (L := L) (n := n) hm (ts := ts) fun t ht => ⟨ok.low t (hp.mem_iff.mp ht), hd t (hp.mem_iff.mp ht)⟩
    rw [e, V2_perm hp, val]
theorem sinces_of {rs : List Row} (h : RowsOk 3 0 20 rs) : (0 : Int) ∈ rs.map (·.1) ∧ ∀ k ∈ rs.map (·.1), 0 ≤ k ∧ k ≤ 1000 := by
  refine ⟨?_, fun k hk => ?_⟩
  · cases rs with
    | nil => exact absurd rfl h.n0
    | cons r rest =>
      have e : r.1 = 0 := Option.some.inj h.first
      rw [← e]
      exact List.mem_cons_self
  · obtain ⟨r, hr, rfl⟩ := List.mem_map.mp hk
    have := h.since r hr
    omega
/-- the last of rising numbers that is not above n -/
theorem last_low : ∀ {ks : List Int} {n : Int}, ks.Pairwise (· < ·) → (∃ k ∈ ks, k ≤ n) → ∃ (i : Nat) (k : Int), ks[i]? = some k ∧ k ≤ n ∧ (∀ k', ks[i + 1]? = some k' → n < k') ∧ ∀ j ∈ ks, j ≤ n → j ≤ k
  | [], n, _, h => by obtain ⟨_, z, _⟩ := h; cases z
  | k0 :: r, n, hp, h => by
    obtain ⟨p1, p2⟩ := List.pairwise_cons.mp hp
    by_cases e : ∃ k ∈ r, k ≤ n
    · obtain ⟨i, k, a, b, c, d⟩ := last_low p2 e
      refine ⟨i + 1, k, a, b, c, fun j hj hjn => ?_⟩
      rcases List.mem_cons.mp hj with rfl | hj
      · exact Int.le_of_lt (p1 k (List.mem_of_getElem? a))
      · exact d j hj hjn
    · have no : ∀ k ∈ r, n < k := fun k hk => Int.not_le.mp fun z => e ⟨k, hk, z⟩
      have k0n : k0 ≤ n := by
        obtain ⟨k, hk, hkn⟩ := h
        rcases List.mem_cons.mp hk with rfl | hk
        · exact hkn
        · exact absurd hkn (Int.not_le.mpr (no k hk))
      refine ⟨0, k0, rfl, k0n, fun k' hk' => no k' (List.mem_of_getElem? (i := 0) hk'), fun j hj hjn => ?_⟩
      rcases List.mem_cons.mp hj with rfl | hj
      · exact Int.le_refl _
      · exact absurd hjn (Int.not_le.mpr (no j hj))
theorem sts_of {rs1 rs2 : List Row} (h1 : RowsOk 3 0 20 rs1) (h2 : RowsOk 3 0 20 rs2) {sts : List Stretch} {ks : List Int} (hk : sts.map (·.1) = ks) (hs : ks.Pairwise (· < ·)) (hm : ∀ k, k ∈ ks ↔ k ∈ rs1.map (·.1) ++ rs2.map (·.1)) (hl : ks.length ≤ 8) (ho : ∀ st ∈ sts, StOf rs1 rs2 st.1 st.2) :
    StsK sts ∧ ∀ n, 0 ≤ n → sgX (dif2 rs1 rs2 n) = sgX (dfc sts n) := by
  obtain ⟨z1, b1⟩ := sinces_of h1
  obtain ⟨z2, b2⟩ := sinces_of h2
  have hb : ∀ k ∈ ks, 0 ≤ k ∧ k ≤ 1000 := fun k hk' => by
    rcases List.mem_append.mp ((hm k).mp hk') with z | z
    · exact b1 k z
    · exact b2 k z
  have z0 : (0 : Int) ∈ ks := (hm 0).mpr (List.mem_append_left _ z1)
  have hbs : ∀ st ∈ sts, 0 ≤ st.1 ∧ st.1 ≤ 1000 := fun st hst => hb _ (hk ▸ List.mem_map.mpr ⟨st, hst, rfl⟩)
  have e50 : (2 : Int) ^ 50 = 1125899906842624 := by decide
  have e59 : (2 : Nat) ^ 59 = 576460752303423488 := by decide
  have first : (sts.head?.map (·.1)) = some 0 := by
    rw [← List.head?_map, hk]
    cases ks with
    | nil => cases z0
    | cons a r =>
      have p := (List.pairwise_cons.mp hs).1
      have a0 := (hb a List.mem_cons_self).1
      rcases List.mem_cons.mp z0 with e | e
      · rw [← e]
        rfl
      · have := p 0 e
        omega
  refine ⟨⟨⟨first, hk.symm ▸ hs, ?_, fun st hst => ?_, fun st hst => ?_⟩, fun st hst => (stOf_facts h1 h2 (ho st hst)).2.2.1, fun st hst => (stOf_facts h1 h2 (ho st hst)).2.2.2.1, fun st hst => ?_⟩, fun n hn => ?_⟩
  · have := congrArg List.length hk
    rw [List.length_map] at this
    omega
  · exact ⟨(stOf_facts h1 h2 (ho st hst)).1, (stOf_facts h1 h2 (ho st hst)).2.1⟩
  · have := hbs st hst
    omega
  · have := hbs st hst
    omega
  · obtain ⟨i, k, hi, hkn, hnx, hle⟩ := last_low hs ⟨0, z0, hn⟩
    have hi' : (sts.map (·.1))[i]? = some k := hk ▸ hi
    rw [List.getElem?_map] at hi'
    obtain ⟨st, hst, rfl⟩ := Option.map_eq_some_iff.mp hi'
    have hpw : stPw sts n = st.2 := stPw_at (hk.symm ▸ hs) hst hkn fun st' hst' => hnx st'.1 (by rw [← hk, List.getElem?_map, hst']; rfl)
    obtain ⟨_, _, _, _, m, m0, hv⟩ := stOf_facts h1 h2 (ho st (List.mem_of_getElem? hst))
    have e1 : rowTs rs1 n = rowTs rs1 st.1 := rowTs_stay hkn fun r hr hrn => hle r.1 ((hm _).mpr (List.mem_append_left _ (List.mem_map.mpr ⟨r, hr, rfl⟩))) hrn
    have e2 : rowTs rs2 n = rowTs rs2 st.1 := rowTs_stay hkn fun r hr hrn => hle r.1 ((hm _).mpr (List.mem_append_right _ (List.mem_map.mpr ⟨r, hr, rfl⟩))) hrn
    rw [dif2_sign (rowTs_kts h1 n).ok.low (rowTs_kts h2 n).ok.low, e1, e2]
    unfold dfc
    rw [hpw]
    have := hv (figs n) n
    rw [← sgX_mul (k := m) m0, ← this, sgX_mul (by decide)]
/-- a heap without the list at F -/
def ers (F : Addr) (H : Hp) : Hp := fun a => if a = F then none else H a
theorem ers_ne {F a : Addr} {H : Hp} (h : a ≠ F) : ers F H a = H a := if_neg h
theorem ers_same (F : Addr) (H : Hp) : Same (ers F H) H := fun b o h => by
  unfold ers at h
  split at h
  · cases h
  · exact h
theorem ers_mono {F : Addr} {H H' : Hp} (h : ∀ b o, b ≠ F → H b = some o → H' b = some o) : Same (ers F H) (ers F H') := fun b o hb => by
  unfold ers at hb
  split at hb
  · cases hb
  · rename_i n
    exact (ers_ne n).trans (h b o n hb)
end OG

set_option Elab.async false
set_option linter.all false
set_option maxRecDepth 100000
set_option maxHeartbeats 4000000
namespace OG
open PySem PySem.Spec PyProof.Rows L2
/-! ### from some size on the sign is that of the greatest term -/
theorem V2_small {n B : Int} (hB : 0 ≤ B) (hn : B + 1 ≤ n) : ∀ (ts : List Term) (p : Nat), ts.Pairwise (fun x y => y.1.1 < x.1.1) → (∀ t ∈ ts, 0 ≤ t.1.1 ∧ ((v2 t.2).natAbs : Int) ≤ B ∧ t.1.1.toNat < p) → ((V2 ts n).natAbs : Int) < n ^ p
  | [], p, _, _ => by
    show ((0 : Int).natAbs : Int) < n ^ p
    have : (0 : Int) < n ^ p := Int.pow_pos (by omega)
    exact this
  | t :: r, p, hf, h => by
    obtain ⟨f1, f2⟩ := List.pairwise_cons.mp hf
    obtain ⟨t0, tb, tp⟩ := h t List.mem_cons_self
    have ih := V2_small hB hn r t.1.1.toNat f2 fun x hx => by
      have a := h x (List.mem_cons_of_mem _ hx)
      have b := f1 x hx
      exact ⟨a.1, a.2.1, by omega⟩
    have pq : (0 : Int) < n ^ t.1.1.toNat := Int.pow_pos (by omega)
    have e1 : ((v2 t.2 * n ^ t.1.1.toNat).natAbs : Int) = ((v2 t.2).natAbs : Int) * n ^ t.1.1.toNat := by
      rw [Int.natAbs_mul, Int.natCast_mul, Int.natAbs_of_nonneg (Int.le_of_lt pq)]
    have e2 := Int.natAbs_add_le (v2 t.2 * n ^ t.1.1.toNat) (V2 r n)
    have e3 : ((v2 t.2).natAbs : Int) * n ^ t.1.1.toNat ≤ (n - 1) * n ^ t.1.1.toNat := Int.mul_le_mul_of_nonneg_right (by omega) (Int.le_of_lt pq)
    have e4 : (n - 1) * n ^ t.1.1.toNat + n ^ t.1.1.toNat = n ^ (t.1.1.toNat + 1) := by
      rw [Int.pow_succ]
      grind
    have e5 : n ^ (t.1.1.toNat + 1) ≤ n ^ p := by
      obtain ⟨k, rfl⟩ : ∃ k, p = t.1.1.toNat + 1 + k := ⟨p - (t.1.1.toNat + 1), by omega⟩
      rw [Int.pow_add n (t.1.1.toNat + 1) k]
      have pk : (0 : Int) < n ^ k := Int.pow_pos (by omega)
      have pq1 : (0 : Int) < n ^ (t.1.1.toNat + 1) := Int.pow_pos (by omega)
      have := Int.mul_le_mul_of_nonneg_left (show (1 : Int) ≤ n ^ k by omega) (Int.le_of_lt pq1)
      omega
    show (((v2 t.2 * n ^ t.1.1.toNat + V2 r n).natAbs : Nat) : Int) < n ^ p
    omega
theorem V2_lead {n B : Int} (hB : 0 ≤ B) (hn : B + 1 ≤ n) {t : Term} {r : List Term} (hf : (t :: r).Pairwise (fun x y => y.1.1 < x.1.1)) (h : ∀ x ∈ t :: r, 0 ≤ x.1.1 ∧ ((v2 x.2).natAbs : Int) ≤ B) (hz : v2 t.2 ≠ 0) : sgX (V2 (t :: r) n) = sgX (v2 t.2) := by
  obtain ⟨f1, f2⟩ := List.pairwise_cons.mp hf
  have ih := V2_small hB hn r t.1.1.toNat f2 fun x hx => by
    have a := h x (List.mem_cons_of_mem _ hx)
    have b := f1 x hx
    exact ⟨a.1, a.2, by omega⟩
  have pq : (0 : Int) < n ^ t.1.1.toNat := Int.pow_pos (by omega)
  show sgX (v2 t.2 * n ^ t.1.1.toNat + V2 r n) = _
  rcases sgX_cases (v2 t.2) with ⟨a1, a2⟩ | ⟨a1, a2⟩ | ⟨a1, a2⟩
  · exact absurd a1 hz
  · rw [a2, sgX_one]
    have : 1 * n ^ t.1.1.toNat ≤ v2 t.2 * n ^ t.1.1.toNat := Int.mul_le_mul_of_nonneg_right (by omega) (Int.le_of_lt pq)
    omega
  · rw [a2, sgX_neg1]
    have : v2 t.2 * n ^ t.1.1.toNat ≤ (-1) * n ^ t.1.1.toNat := Int.mul_le_mul_of_nonneg_right (by omega) (Int.le_of_lt pq)
    omega
theorem falling_of {ds : List Term} (nd : (ds.map (·.1)).Nodup) (z : ∀ t ∈ ds, t.1.2 = 0) : ∃ ts : List Term, ts.Perm ds ∧ ts.Pairwise fun x y => y.1.1 < x.1.1 := by
  refine ⟨ds.mergeSort fun a b => decide (b.1.1 ≤ a.1.1), List.mergeSort_perm _ _, ?_⟩
  have h1 := List.pairwise_mergeSort (le := fun a b : Term => decide (b.1.1 ≤ a.1.1)) (fun a b c hab hbc => by
    have := of_decide_eq_true hab
    have := of_decide_eq_true hbc
    exact decide_eq_true (by omega)) (fun a b => by
    by_cases h : b.1.1 ≤ a.1.1
    · rw [decide_eq_true h]
      rfl
    · rw [decide_eq_false h, decide_eq_true (by omega)]
      rfl) ds
  have h2 : ((ds.mergeSort fun a b => decide (b.1.1 ≤ a.1.1)).map (·.1)).Nodup := ((List.mergeSort_perm ds _).map _).nodup_iff.mpr nd
  have h3 := List.pairwise_map.mp h2
  refine (h1.and h3).imp_of_mem fun {x y} hx hy h => ?_
  obtain ⟨a, b⟩ := h
  have a' := of_decide_eq_true a
  have zx := z x (List.mem_mergeSort.mp hx)
  have zy := z y (List.mem_mergeSort.mp hy)
  have : x.1.1 ≠ y.1.1 := fun e => b (Prod.ext e (zx.trans zy.symm))
  omega
theorem tail_sign {rs1 rs2 : List Row} (h1 : RowsOk 3 0 20 rs1) (h2 : RowsOk 3 0 20 rs2) {n : Int} (hn : 162 ≤ n) : sgX (dif2 rs1 rs2 n) = sgX (dif2 rs1 rs2 179) := by
  have st : ∀ {rs : List Row}, RowsOk 3 0 20 rs → ∀ m : Int, 162 ≤ m → rowTs rs m = rowTs rs 162 := fun {rs} h m hm => rowTs_stay hm fun r hr _ => by
    have := h.since r hr
    omega
  have kt1 := rowTs_kts h1 162
  have kt2 := rowTs_kts h2 162
  obtain ⟨ok, nz, val, _, _⟩ := less_facts kt1 kt2
  obtain ⟨ts, hp, hf⟩ := falling_of ok.apart fun t ht => (ok.low t ht).1
  have bd : ∀ t ∈ ts, 0 ≤ t.1.1 ∧ ((v2 t.2).natAbs : Int) ≤ 160 := fun t ht => by
    have ht' := hp.mem_iff.mp ht
    refine ⟨(ok.keys t ht').1, ?_⟩
    have hm := (List.mem_filter.mp ht').1
    have := fold_bound (c := 40) (rowTs rs2 162) (rowTs rs1 162) 40 kt1.ok.low kt2.ok.low kt1.small kt2.small t hm
    have l := kt2.few
    omega
  have key : ∀ m : Int, 162 ≤ m → sgX (dif2 rs1 rs2 m) = sgX (V2 ts m) := fun m hm => by
    have k1 := rowTs_kts h1 m
    have k2 := rowTs_kts h2 m
    rw [dif2_sign k1.ok.low k2.ok.low, st h1 m hm, st h2 m hm, V2_perm hp, val]
  rw [key n hn, key 179 (by decide)]
  cases ts with
  | nil => rfl
  | cons t r =>
    have z := nz t (hp.mem_iff.mp List.mem_cons_self)
    rw [V2_lead (B := 160) (by decide) (by omega) hf bd z, V2_lead (B := 160) (by decide) (by decide) hf bd z]
theorem dif2_neg (rs1 rs2 : List Row) (n : Int) : sgX (dif2 rs2 rs1 n) = 0 - sgX (dif2 rs1 rs2 n) := by
  have e : dif2 rs2 rs1 n = -dif2 rs1 rs2 n := by
    unfold dif2
    omega
  rw [e]
  rcases sgX_cases (dif2 rs1 rs2 n) with ⟨a1, a2⟩ | ⟨a1, a2⟩ | ⟨a1, a2⟩ <;> rcases sgX_cases (-dif2 rs1 rs2 n) with ⟨b1, b2⟩ | ⟨b1, b2⟩ | ⟨b1, b2⟩ <;> rw [a2, b2] <;> omega
/-- the sizes up to 179 at which it is not so -/
def wrongs (s : Nat → Int) : List Int := ((List.range 180).filter fun i => decide (s i ≠ s 179)).map fun i => ((i : Nat) : Int)
theorem settled_tells {G : Int → Int} {s size m : Int} (h : Settled G s size) (t : ∀ n, 162 ≤ n → sgX (G n) = sgX (G 179)) (hm : m ∈ -1 :: wrongs (fun i => sgX (G i))) (hx : ∀ y ∈ -1 :: wrongs (fun i => sgX (G i)), y ≤ m) : s = sgX (G 179) ∧ size = m + 1 := by
  obtain ⟨h0, h1, h2⟩ := h
  have es : s = sgX (G 179) := by
    by_cases c : size ≤ 179
    · exact (h1 179 c).symm
    · rw [← h1 size (Int.le_refl _), t size (by omega)]
  have hs : size ≤ 162 := by
    refine Int.not_lt.mp fun c => ?_
    exact h2 (by omega) (by rw [t (size - 1) (by omega), es])
  refine ⟨es, ?_⟩
  have wr : ∀ n : Int, n ∈ wrongs (fun i => sgX (G i)) ↔ 0 ≤ n ∧ n < 180 ∧ sgX (G n) ≠ s := fun n => by
    unfold wrongs
    rw [es]
    constructor
    · intro hn
      obtain ⟨i, hi, rfl⟩ := List.mem_map.mp hn
      obtain ⟨a, b⟩ := List.mem_filter.mp hi
      have a' := List.mem_range.mp a
      exact ⟨by omega, by omega, of_decide_eq_true b⟩
    · rintro ⟨a, b, c⟩
      refine List.mem_map.mpr ⟨n.toNat, List.mem_filter.mpr ⟨List.mem_range.mpr (by omega), ?_⟩, by omega⟩
      refine decide_eq_true ?_
      show sgX (G ((n.toNat : Nat) : Int)) ≠ sgX (G ((179 : Nat) : Int))
      rw [show ((n.toNat : Nat) : Int) = n by omega]
      exact c
  have up : ∀ y, y ∈ -1 :: wrongs (fun i => sgX (G i)) → y ≤ size - 1 := fun y hy => by
    rcases List.mem_cons.mp hy with rfl | hy
    · omega
    · obtain ⟨a, b, c⟩ := (wr y).mp hy
      refine Int.not_lt.mp fun z => c (h1 y (by omega))
  have lo : size - 1 ≤ m := by
    by_cases z : size = 0
    · have := hx (-1) List.mem_cons_self
      omega
    · exact hx (size - 1) (List.mem_cons_of_mem _ ((wr _).mpr ⟨by omega, by omega, h2 (by omega)⟩))
  have := up m hm
  omega
theorem wrongs_neg {s : Nat → Int} : wrongs (fun i => 0 - s i) = wrongs s := by
  unfold wrongs
  refine congrArg _ (List.filter_congr fun i _ => ?_)
  by_cases h : s i = s 179
  · rw [decide_eq_false (fun z : 0 - s i ≠ 0 - s 179 => z (by rw [h])), decide_eq_false (fun z => z h)]
  · rw [decide_eq_true (show 0 - s i ≠ 0 - s 179 by omega), decide_eq_true h]
/-- the last row's terms put in place of another's last ones -/
theorem rows_turned {rs1 rs2 : List Row} {r1 r2 : Row} {i1 i2 : List Row} (h1 : RowsOk 3 0 20 rs1) (h2 : RowsOk 3 0 20 rs2) (e1 : rs1 = i1 ++ [r1]) (e2 : rs2 = i2 ++ [r2]) : RowsOk 3 0 20 (i2 ++ [(r2.1, r1.2)]) := by
  have ek : (i2 ++ [((r2.1, r1.2) : Row)]).map (·.1) = rs2.map (·.1) := by
    rw [e2, List.map_append, List.map_append]
    rfl
  refine ⟨by simp, ?_, fun r hr => ?_, ?_, by rw [ek]; exact h2.rises, fun r hr => ?_⟩
  · have := h2.n4
    rw [e2, List.length_append] at this
    rw [List.length_append]
    exact this
  · rcases List.mem_append.mp hr with z | z
    · exact h2.terms r (e2 ▸ List.mem_append_left _ z)
    · rw [List.mem_singleton.mp z]
      exact h1.terms r1 (e1 ▸ List.mem_append_right _ List.mem_cons_self)
  · rw [← List.head?_map, ek, List.head?_map]
    exact h2.first
  · rcases List.mem_append.mp hr with z | z
    · exact h2.since r (e2 ▸ List.mem_append_left _ z)
    · rw [List.mem_singleton.mp z]
      exact h2.since r2 (e2 ▸ List.mem_append_right _ List.mem_cons_self)
theorem rows_split {H : Hp} : ∀ {us0 : List V} {u : V} {rs : List Row} {ls : List Addr}, RowsAt H (us0 ++ [u]) rs ls → ∃ rs0 r ls0 l, rs = rs0 ++ [r] ∧ ls = ls0 ++ [l] ∧ RowsAt H us0 rs0 ls0 ∧ RowAt H u r l
  | [], u, _, _, .cons h .nil => ⟨[], _, [], _, rfl, rfl, .nil, h⟩
  | u0 :: us0, u, _, _, .cons h t => by
    obtain ⟨rs0, r, ls0, l, rfl, rfl, h1, h2⟩ := rows_split t
    exact ⟨_ :: rs0, r, _ :: ls0, l, rfl, rfl, .cons h h1, h2⟩
theorem rows_snoc {H : Hp} {us0 : List V} {u : V} {rs0 : List Row} {r : Row} {ls0 : List Addr} {l : Addr} (h : RowsAt H us0 rs0 ls0) (h2 : RowAt H u r l) : RowsAt H (us0 ++ [u]) (rs0 ++ [r]) (ls0 ++ [l]) := by
  induction h with
  | nil => exact .cons h2 .nil
  | cons h t ih => exact .cons h ih
theorem cut_last (us0 : List V) (u : V) : cutV (us0 ++ [u]) none (some (-1)) = us0 := by
  have e : HT.sIx (us0 ++ [u]).length (us0 ++ [u]).length (some (-1)) = us0.length := by
    rw [List.length_append]
    unfold HT.sIx
    simp
    all_goals omega
  unfold cutV
  rw [e]
  show ((us0 ++ [u]).drop 0).take (us0.length - 0) = us0
  simp
/-- unders of a worth are small -/
theorem worth_under {rs : List Row} (h : ROk rs) (n : Int) : 1 ≤ (worthOf rs n).2 ∧ (worthOf rs n).2 ≤ 256 := by
  have ts : ∀ t ∈ rowTs rs n, 1 ≤ t.2.2 ∧ t.2.2 ≤ 2 := fun t ht => by
    unfold rowTs at ht
    cases e : rs[rowIx rs n - 1]? with
    | none => rw [e] at ht; cases ht
    | some r =>
      rw [e] at ht
      exact ((h.terms r (List.mem_of_getElem? e)).2 t ht).2.2.2.2.2
  have ln : (rowTs rs n).length ≤ 8 := by
    unfold rowTs
    cases e : rs[rowIx rs n - 1]? with
    | none => exact Nat.zero_le _
    | some r => exact (h.terms r (List.mem_of_getElem? e)).1
  obtain ⟨a, b⟩ := sum_under n (rowTs rs n) (0, 1) ts (by decide)
  have e1 : ((0, 1) : Int × Int).2 = 1 := rfl
  rw [e1, Int.one_mul] at b
  have h9 : ∀ k : Nat, k ≤ 8 → (2 : Int) ^ k ≤ 256 := by decide +kernel
  have c := h9 _ ln
  have a' : 1 ≤ (sumUp n (rowTs rs n)).2 := a
  have b' : (sumUp n (rowTs rs n)).2 ≤ 2 ^ (rowTs rs n).length := b
  have d := (low_le (o := (sumUp n (rowTs rs n)).1) a').1
  have f := (low_facts (o := (sumUp n (rowTs rs n)).1) a').2.2.2.2
  exact ⟨f, Int.le_trans (Int.le_trans d b') c⟩
/-- two sums in a list, for repr -/
def pyP (rs1 rs2 : List Row) : PyData := .list [pyS rs1, pyS rs2]
theorem py_pair {rs1 rs2 : List Row} (h1 : RSm rs1) (h2 : RSm rs2) (l1 : rs1.length ≤ 4) (l2 : rs2.length ≤ 4) : (pyP rs1 rs2).showable = true ∧ (pyP rs1 rs2).hasDict = false ∧ (pyP rs1 rs2).depth ≤ 60 ∧ (pyP rs1 rs2).shown.length ≤ sizeLine := by
  obtain ⟨a1, a2, a3, a4, a5⟩ := py_rows rs1 h1.2
  obtain ⟨b1, b2, b3, b4, b5⟩ := py_rows rs2 h2.2
  refine ⟨?_, ?_, ?_, ?_⟩
  · show (PyData.showableAll (rs1.map pyR) && (PyData.showableAll (rs2.map pyR) && true)) = true
    rw [a1, b1]
    rfl
  · show (PyData.hasDictAll (rs1.map pyR) || (PyData.hasDictAll (rs2.map pyR) || false)) = false
    rw [a2, b2]
    rfl
  · show max (PyData.depthAll (rs1.map pyR) + 1) (max (PyData.depthAll (rs2.map pyR) + 1) 0) + 1 ≤ 60
    omega
  · have e : (pyP rs1 rs2).leavesShort 110 = true := by
      show (PyData.leavesShortAll 110 (rs1.map pyR) && (PyData.leavesShortAll 110 (rs2.map pyR) && true)) = true
      rw [a4, b4]
      rfl
    have b := PyData.shown_le_bulk 110 (by decide) (pyP rs1 rs2) e
    have c : (pyP rs1 rs2).bulk ≤ 490 := by
      show PyData.bulkAll (rs1.map pyR) + 1 + (PyData.bulkAll (rs2.map pyR) + 1 + 0) ≤ 490
      omega
    have d : (110 + 2) * (pyP rs1 rs2).bulk ≤ 112 * 490 := Nat.mul_le_mul_left _ c
    exact sz (by omega)
end OG

set_option Elab.async false
set_option linter.all false
set_option maxRecDepth 100000
set_option maxHeartbeats 4000000
namespace OG
open PySem PySem.Spec PyProof.Rows L2
/-! ### steady and endless, just as they are looked at -/
theorem dk_ev (p : List Int) : ∀ k : Nat, dk k (ev p) = ev (difk k p)
  | 0 => rfl
  | k + 1 => by
    show dl (dk k (ev p)) = _
    rw [dk_ev p k, difk_ev]
def SteadyP (p : List Int) (lo hi s : Int) : Prop := sgX (ev p lo) = s ∧ sgX (ev p hi) = s ∧ ∀ j : Nat, 1 ≤ j → j + 1 ≤ p.length → (j : Int) ≤ hi - lo → ¬ sgX (dk j (ev p) lo) * sgX (dk j (ev p) (hi - j)) < 0
def EndlessP (p : List Int) (lo s : Int) : Prop := sgX (ev p lo) = s ∧ ∀ j : Nat, 1 ≤ j → j + 1 ≤ p.length → sgX (dk j (ev p) lo) ≠ - s
theorem SteadyP.all {p : List Int} {lo hi s : Int} (h : SteadyP p lo hi s) (hl : lo ≤ hi) : ∀ x, lo ≤ x → x ≤ hi → sgX (ev p x) = s := by
  obtain ⟨a, b, c⟩ := h
  by_cases z : (p.length : Int) - 1 ≤ hi - lo
  · exact steady (m := p.length - 1) hl (by omega) (by omega) a b fun j j1 j2 => c j j1 (by omega) (by omega)
  · exact steady (m := (hi - lo).toNat) hl (by omega) (by omega) a b fun j j1 j2 => c j j1 (by omega) (by omega)
theorem EndlessP.all {p : List Int} {lo s : Int} (h : EndlessP p lo s) (hs : s ≠ 0) : ∀ x, lo ≤ x → sgX (ev p x) = s := by
  obtain ⟨a, b⟩ := h
  refine endless hs a fun k hk => ?_
  cases k with
  | zero =>
    show sgX (ev p lo) ≠ -s
    rw [a]
    omega
  | succ k => exact b (k + 1) (by omega) hk
theorem Keeps.sub {f : Int → Int} {a b x y : Int} (h : Keeps f a b) (h1 : a ≤ x) (h2 : x ≤ y) (h3 : y ≤ b) : Keeps f x y := fun z z1 z2 => by
  rw [h z (by omega) (by omega), h x h1 (by omega)]
theorem keeps_const {f : Int → Int} (h : ∀ x y, f x = f y) (a b : Int) : Keeps f a b := fun x _ _ => by rw [h x a]
/-- a run on which all differences keep their signs is steady -/
theorem steady_of {p : List Int} {a b s : Int} (hab : a ≤ b) (h : ∀ k : Nat, Keeps (ev (difk k p)) a b) (e : sgX (ev p a) = s) : SteadyP p a b s := by
  refine ⟨e, (h 0 b hab (Int.le_refl _)).trans e, fun j j1 j2 j3 => ?_⟩
  rw [dk_ev]
  have := h j (b - j) (by omega) (by omega)
  rw [this]
  rcases sgX_cases (ev (difk j p) a) with ⟨_, z⟩ | ⟨_, z⟩ | ⟨_, z⟩ <;> rw [z] <;> decide
theorem SegsP.impI {P Q : Int → Int → Prop} : ∀ {ss : List Int} {lo hi : Int}, (∀ a b, lo ≤ a → a ≤ b → b ≤ hi → P a b → Q a b) → SegsP P lo hi ss → SegsP Q lo hi ss
  | [], _, _, _, h => h.elim
  | [s], lo, hi, f, h => ⟨h.1, h.2.1, f _ _ (Int.le_refl _) h.2.1 (Int.le_refl _) h.2.2⟩
  | s :: t :: r, lo, hi, f, h => by
    have hl := h.2.2.2.le
    refine ⟨h.1, h.2.1, f _ _ (Int.le_refl _) (by have := h.2.1; omega) (by omega) h.2.2.1, SegsP.impI (fun a b h1 h2 h3 => f a b (by have := h.2.1; omega) h2 h3) h.2.2.2⟩
/-! ### contracts, exact -/
def spSteadyF : Sp := fun vs H Q _ => ∃ (a : Addr) (p : List Int) (lo hi s : Int), vs = [.ref a, .int lo, .int hi, .int s] ∧ LAt H a p ∧ lo ≤ hi ∧ PIn p lo hi ∧ p.length ≤ 900 ∧ ∀ (b : Bool) (H' : Hp), Same H H' → (b = true ↔ SteadyP p lo hi s) → Q (.bl b) H'
def spEndlessF : Sp := fun vs H Q _ => ∃ (a : Addr) (p : List Int) (lo s : Int), vs = [.ref a, .int lo, .int s] ∧ LAt H a p ∧ p.length ≤ 900 ∧ POk p lo ∧ (∀ i : Nat, i < p.length → POk p (lo + i)) ∧ ∀ (b : Bool) (H' : Hp), Same H H' → (b = true ↔ EndlessP p lo s) → Q (.bl b) H'
def AllK (p : List Int) (a b : Int) : Prop := ∀ k : Nat, Keeps (ev (difk k p)) a b
def spRunsF : Sp := fun vs H Q _ => ∃ (a : Addr) (p : List Int) (lo hi : Int), vs = [.ref a, .int lo, .int hi] ∧ LAt H a p ∧ p.length ≤ 10 ∧ (lo ≤ hi → ∀ k : Nat, PIn (difk k p) lo hi) ∧
  ∀ (b : Addr) (us : List V) (ss : List Int) (H' : Hp), Same H H' → H b = none → H' b = some (.lst us) → ((hi < lo ∧ us = []) ∨ (lo ≤ hi ∧ SegsP (AllK p) lo hi ss ∧ RunsAt H' p hi us ss ∧ ss.length < 90000 ∧ ss.length ≤ 3 ^ (p.length - 1 + 1))) → Q (.ref b) H'
/-! ### great numbers -/
theorem ev_small {B x : Int} (hB : 0 ≤ B) (hx : B + 1 ≤ x) : ∀ {p : List Int}, (∀ c ∈ p, (c.natAbs : Int) ≤ B) → ((ev p x).natAbs : Int) < x ^ p.length
  | [], _ => by show ((0 : Int).natAbs : Int) < x ^ 0; rw [Int.pow_zero]; decide
  | c :: r, h => by
    have ih := ev_small hB hx (p := r) fun d hd => h d (List.mem_cons_of_mem _ hd)
    have hc := h c List.mem_cons_self
    have e1 := Int.natAbs_add_le c (x * ev r x)
    have e2 : ((x * ev r x).natAbs : Int) = x * ((ev r x).natAbs : Int) := by
      rw [Int.natAbs_mul, Int.natCast_mul, Int.natAbs_of_nonneg (by omega)]
    have e3 : x * ((ev r x).natAbs : Int) ≤ x * (x ^ r.length - 1) := Int.mul_le_mul_of_nonneg_left (by omega) (by omega)
    have e4 : x * (x ^ r.length - 1) = x ^ (r.length + 1) - x := by rw [Int.pow_succ]; grind
    show (((c + x * ev r x).natAbs : Nat) : Int) < x ^ (r.length + 1)
    omega
/-- the last part gives the sign -/
theorem ev_lead {B x c : Int} (hB : 0 ≤ B) (hx : B + 1 ≤ x) {p : List Int} (h : ∀ d ∈ p, (d.natAbs : Int) ≤ B) (hc : c ≠ 0) : sgX (ev (p ++ [c]) x) = sgX c := by
  have app : ∀ q : List Int, ev (q ++ [c]) x = ev q x + c * x ^ q.length := fun q => by
    induction q with
    | nil => show c + x * 0 = 0 + c * x ^ 0; rw [Int.pow_zero]; omega
    | cons a r ih =>
      show a + x * ev (r ++ [c]) x = a + x * ev r x + c * x ^ (r.length + 1)
      rw [ih, Int.pow_succ]
      grind
  rw [app]
  have s := ev_small hB hx h
  have pp : (0 : Int) < x ^ p.length := Int.pow_pos (by omega)
  rcases sgX_cases c with ⟨a1, a2⟩ | ⟨a1, a2⟩ | ⟨a1, a2⟩
  · exact absurd a1 hc
  · rw [a2, sgX_one]
    have : 1 * x ^ p.length ≤ c * x ^ p.length := Int.mul_le_mul_of_nonneg_right (by omega) (Int.le_of_lt pp)
    omega
  · rw [a2, sgX_neg1]
    have : c * x ^ p.length ≤ (-1) * x ^ p.length := Int.mul_le_mul_of_nonneg_right (by omega) (Int.le_of_lt pp)
    omega
end OG
namespace OG
theorem difk_short {n : Nat} {p : List Int} (h : (difk n p).length ≤ 1) : ∀ k : Nat, n ≤ k → (difk k p).length ≤ 1 := fun k hk => by
  induction k with
  | zero =>
    obtain rfl : n = 0 := by omega
    exact h
  | succ k ih =>
    by_cases e : n = k + 1
    · rw [← e]
      exact h
    · have l := ih (by omega)
      show (dif (difk k p)).length ≤ 1
      by_cases z : difk k p = []
      · rw [z]
        decide
      · have := dif_len z
        omega
end OG

set_option Elab.async false
set_option linter.all false
set_option maxRecDepth 100000
set_option maxHeartbeats 4000000
namespace OG
open PySem PySem.Spec PyProof.Rows L2
/-! ### weights of the lesser terms -/
theorem absL_len (p : List Int) : (absL p).length = p.length := List.length_map _
theorem ev_abs_nn {L : Int} (h : 0 ≤ L) : ∀ p : List Int, 0 ≤ ev (absL p) L
  | [] => Int.le_refl _
  | c :: r => by
    have := ev_abs_nn h r
    have := Int.mul_nonneg h this
    show 0 ≤ (c.natAbs : Int) + L * ev (absL r) L
    omega
theorem ev_abs_le {L : Int} (h : 0 ≤ L) : ∀ p : List Int, ((ev p L).natAbs : Int) ≤ ev (absL p) L
  | [] => Int.le_refl _
  | c :: r => by
    have ih := ev_abs_le h r
    have e1 := Int.natAbs_add_le c (L * ev r L)
    have e2 : ((L * ev r L).natAbs : Int) = L * ((ev r L).natAbs : Int) := by rw [Int.natAbs_mul, Int.natCast_mul, Int.natAbs_of_nonneg h]
    have e3 := Int.mul_le_mul_of_nonneg_left ih h
    show (((c + L * ev r L).natAbs : Nat) : Int) ≤ (c.natAbs : Int) + L * ev (absL r) L
    omega
theorem wtA_nn {L : Int} (h : 0 ≤ L) : ∀ r : Pw, 0 ≤ wtA r L
  | [] => Int.le_refl _
  | p :: r => by
    have a := wtA_nn h r
    have b := ev_abs_nn h p.2
    show 0 ≤ ev (absL p.2) L + wtA r L
    omega
theorem wt_le_wtA {L : Int} (h : 0 ≤ L) : ∀ r : Pw, OG.wt r L ≤ wtA r L
  | [] => Int.le_refl _
  | p :: r => by
    have a := wt_le_wtA h r
    have b := ev_abs_le h p.2
    show ((ev p.2 L).natAbs : Int) + OG.wt r L ≤ ev (absL p.2) L + wtA r L
    omega
theorem ev_abs_mono {L M : Int} (h : 0 ≤ L) (hm : L ≤ M) : ∀ p : List Int, ev (absL p) L ≤ ev (absL p) M
  | [] => Int.le_refl _
  | c :: r => by
    have ih := ev_abs_mono h hm r
    have nn := ev_abs_nn h r
    have e1 := Int.mul_le_mul hm ih nn (show 0 ≤ M by omega)
    show (c.natAbs : Int) + L * ev (absL r) L ≤ (c.natAbs : Int) + M * ev (absL r) M
    omega
theorem wtA_mono {L M : Int} (h : 0 ≤ L) (hm : L ≤ M) : ∀ r : Pw, wtA r L ≤ wtA r M
  | [] => Int.le_refl _
  | p :: r => by
    have a := wtA_mono h hm r
    have b := ev_abs_mono h hm p.2
    show ev (absL p.2) L + wtA r L ≤ ev (absL p.2) M + wtA r M
    omega
/-- powers hardly grow where the base is great -/
theorem bern {f : Int} (h : 0 ≤ f) : ∀ k : Nat, (f + 1) ^ k * (f + 1 - k) ≤ f ^ k * (f + 1)
  | 0 => by
    rw [Int.pow_zero, Int.pow_zero]
    have : ((0 : Nat) : Int) = 0 := rfl
    omega
  | k + 1 => by
    have ih := bern h k
    have i2 := Int.mul_le_mul_of_nonneg_left ih h
    have p : 0 ≤ (f + 1) ^ k := Int.pow_nonneg (by omega)
    have e1 : (f + 1) ^ (k + 1) * (f + 1 - ((k + 1 : Nat) : Int)) = (f + 1) ^ k * ((f + 1) * (f - k)) := by
      rw [Int.pow_succ]
      have : ((k + 1 : Nat) : Int) = k + 1 := rfl
      rw [this]
      grind
    have e2 : f ^ (k + 1) * (f + 1) = f * (f ^ k * (f + 1)) := by
      rw [Int.pow_succ]
      grind
    have e3 : f * ((f + 1) ^ k * (f + 1 - k)) = (f + 1) ^ k * (f * (f + 1 - k)) := by grind
    have e4 : (f + 1) * (f - k) = f * (f + 1 - k) - k := by grind
    have e5 : (f + 1) ^ k * ((f + 1) * (f - k)) ≤ (f + 1) ^ k * (f * (f + 1 - k)) := Int.mul_le_mul_of_nonneg_left (by rw [e4]; omega) p
    rw [e1, e2]
    omega
theorem pow_twice {f : Int} {k : Nat} (h : 2 * (k : Int) ≤ f) : (f + 1) ^ k ≤ 2 * f ^ k := by
  have b := bern (show 0 ≤ f by omega) k
  have p : 0 ≤ (f + 1) ^ k := Int.pow_nonneg (by omega)
  have e : (f + 1) ^ k * (f + 1) ≤ 2 * ((f + 1) ^ k * (f + 1 - k)) := by
    have : (f + 1) ^ k * (f + 1) ≤ (f + 1) ^ k * (2 * (f + 1 - k)) := Int.mul_le_mul_of_nonneg_left (by omega) p
    have e2 : (f + 1) ^ k * (2 * (f + 1 - k)) = 2 * ((f + 1) ^ k * (f + 1 - k)) := by grind
    omega
  have e3 : (f + 1) ^ k * (f + 1) ≤ (2 * f ^ k) * (f + 1) := by
    have : (2 * f ^ k) * (f + 1) = 2 * (f ^ k * (f + 1)) := by grind
    omega
  exact Int.le_of_mul_le_mul_right e3 (by omega)
theorem ev_abs_step {f : Int} (p : List Int) (m : Nat) (hl : p.length ≤ m + 1) (h : 2 * (m : Int) ≤ f) : ∀ (q : List Int) (j : Nat), q.length + j = p.length → (f + 1) ^ j * ev (absL q) (f + 1) ≤ 2 * (f ^ j * ev (absL q) f)
  | [], j, _ => by
    show (f + 1) ^ j * 0 ≤ 2 * (f ^ j * 0)
    omega
  | c :: r, j, e => by
    have e' : r.length + 1 + j = p.length := e
    have ih := ev_abs_step p m hl h r (j + 1) (by omega)
    have pt := pow_twice (f := f) (k := j) (by omega)
    have c0 : (0 : Int) ≤ (c.natAbs : Int) := by omega
    have a1 := Int.mul_le_mul_of_nonneg_right pt c0
    show (f + 1) ^ j * ((c.natAbs : Int) + (f + 1) * ev (absL r) (f + 1)) ≤ 2 * (f ^ j * ((c.natAbs : Int) + f * ev (absL r) f))
    have b1 : (f + 1) ^ j * ((c.natAbs : Int) + (f + 1) * ev (absL r) (f + 1)) = (f + 1) ^ j * (c.natAbs : Int) + (f + 1) ^ (j + 1) * ev (absL r) (f + 1) := by rw [Int.pow_succ]; grind
    have b2 : 2 * (f ^ j * ((c.natAbs : Int) + f * ev (absL r) f)) = 2 * f ^ j * (c.natAbs : Int) + 2 * (f ^ (j + 1) * ev (absL r) f) := by rw [Int.pow_succ]; grind
    rw [b1, b2]
    omega
/-- the greatest power of the figures in these powers -/
def deepOf : Pw → Nat
  | [] => 0
  | p :: r => max (p.2.length - 1) (deepOf r)
theorem wtA_twice {f : Int} : ∀ (r : Pw) (m : Nat), deepOf r ≤ m → 2 * (m : Int) ≤ f → wtA r (f + 1) ≤ 2 * wtA r f
  | [], _, _, _ => by show (0 : Int) ≤ 2 * 0; omega
  | p :: r, m, hd, h => by
    have hd' : max (p.2.length - 1) (deepOf r) ≤ m := hd
    have ih := wtA_twice r m (by omega) h
    have a := ev_abs_step p.2 m (by omega) h p.2 0 rfl
    rw [Int.pow_zero, Int.pow_zero, Int.one_mul, Int.one_mul] at a
    show ev (absL p.2) (f + 1) + wtA r (f + 1) ≤ 2 * (ev (absL p.2) f + wtA r f)
    omega
/-! ### figures from which a row may begin -/
def leastOf (st : Stretch) : Int := max (max 1 (2 * (deepOf st.2 : Int))) ((figs st.1 : Int) + 1)
def MayLow (st : Stretch) (f : Int) : Prop := leastOf st ≤ f ∧ (figs (wtA (st.2.drop 1) f) : Int) < f
instance (st : Stretch) (f : Int) : Decidable (MayLow st f) := inferInstanceAs (Decidable (_ ∧ _))
theorem deep_drop : ∀ (r : Pw) (k : Nat), deepOf (r.drop k) ≤ deepOf r
  | [], k => by rw [List.drop_nil]; exact Nat.le_refl _
  | p :: r, 0 => Nat.le_refl _
  | p :: r, k + 1 => Nat.le_trans (deep_drop r k) (Nat.le_max_right _ _)
theorem figs_two {a b : Int} (ha : 0 ≤ a) (h : b ≤ 2 * a) (hb : 0 ≤ b) : figs b ≤ figs a + 1 := by
  refine figs_le_of hb ?_
  have := figs_lt ha
  rw [Int.pow_succ]
  omega
theorem MayLow.up {st : Stretch} {f : Int} (h : MayLow st f) : ∀ n : Nat, MayLow st (f + n)
  | 0 => by rw [show f + ((0 : Nat) : Int) = f by omega]; exact h
  | n + 1 => by
    obtain ⟨a, b⟩ := h.up n
    rw [show f + ((n + 1 : Nat) : Int) = f + n + 1 by omega]
    have hl : leastOf st ≤ f + n := a
    unfold leastOf at hl
    have nn := wtA_nn (L := f + n) (by omega) (st.2.drop 1)
    have nn2 := wtA_nn (L := f + n + 1) (by omega) (st.2.drop 1)
    have tw := wtA_twice (f := f + n) (st.2.drop 1) (deepOf st.2) (deep_drop _ _) (by omega)
    have := figs_two nn tw nn2
    refine ⟨by omega, by omega⟩
theorem MayLow.mono {st : Stretch} {f g : Int} (h : MayLow st f) (hg : f ≤ g) : MayLow st g := by
  have := h.up (g - f).toNat
  rwa [show f + ((g - f).toNat : Int) = g by omega] at this
theorem MayLow.wt {st : Stretch} {f n : Int} (h : MayLow st f) (hn : (figs n : Int) = f) (h0 : 0 ≤ n) : wtA (st.2.drop 1) f < n ∧ 1 ≤ n ∧ st.1 ≤ n := by
  obtain ⟨a, b⟩ := h
  have hl : leastOf st ≤ f := a
  unfold leastOf at hl
  have np : 0 < n := by
    refine Int.not_le.mp fun z => ?_
    have : n = 0 := by omega
    rw [this, figs_zero] at hn
    have e : ((0 : Nat) : Int) = 0 := rfl
    omega
  obtain ⟨g1, g2⟩ := figs_ge np
  have nn := wtA_nn (L := f) (by omega) (st.2.drop 1)
  have l := figs_lt nn
  have le := pow2_le (i := figs (wtA (st.2.drop 1) f)) (j := figs n - 1) (by omega)
  refine ⟨by omega, by omega, ?_⟩
  rcases Int.lt_or_le st.1 0 with z | z
  · omega
  · have l2 := figs_lt z
    have le2 := pow2_le (i := figs st.1) (j := figs n - 1) (by omega)
    omega
/-- the sign of the greatest power whose polynomial is not nought at these figures -/
def blockSg : Pw → Int → Int
  | [], _ => 0
  | p :: r, f => if ev p.2 f = 0 then blockSg r f else sgX (ev p.2 f)
theorem wt_drop {L : Int} (h : 0 ≤ L) : ∀ (r : Pw), wtA (r.drop 1) L ≤ wtA r L
  | [] => Int.le_refl _
  | p :: r => by
    have b := ev_abs_nn h p.2
    show wtA r L ≤ ev (absL p.2) L + wtA r L
    omega
theorem block_sign : ∀ {pw : Pw} {L n : Int}, pw.Pairwise (fun a b => b.1 < a.1) → 0 ≤ L → 1 ≤ n → wtA (pw.drop 1) L < n → sgX (pwEv pw L n) = blockSg pw L
  | [], _, _, _, _, _, _ => rfl
  | p :: r, L, n, hf, hL, hn, hw => by
    unfold blockSg
    have hw' : wtA r L < n := hw
    by_cases e : ev p.2 L = 0
    · rw [if_pos e]
      have ih := block_sign (pw := r) (List.pairwise_cons.mp hf).2 hL hn (Int.lt_of_le_of_lt (wt_drop hL r) hw')
      have : pwEv (p :: r) L n = pwEv r L n := by
        show ev p.2 L * n ^ p.1 + pwEv r L n = _
        rw [e]
        omega
      rw [this]
      exact ih
    · rw [if_neg e]
      exact lead_sign hf hn (Int.lt_of_le_of_lt (wt_le_wtA hL r) hw') e
end OG

set_option Elab.async false
set_option linter.all false
set_option maxRecDepth 100000
set_option maxHeartbeats 4000000
namespace OG
open PySem PySem.Spec PyProof.Rows L2
theorem trim_trim : ∀ p : List Int, trim (trim p) = trim p
  | [] => rfl
  | a :: r => by
    have ih := trim_trim r
    cases e : trim r with
    | nil =>
      have e1 : trim (a :: r) = if a = 0 then [] else [a] := by
        show (match trim r with | [] => if a = 0 then [] else [a] | b :: t => a :: b :: t) = _
        rw [e]
      rw [e1]
      by_cases h : a = 0
      · rw [if_pos h]
        rfl
      · rw [if_neg h]
        show (match trim [] with | [] => if a = 0 then [] else [a] | b :: t => a :: b :: t) = _
        exact if_neg h
    | cons b t =>
      have e1 : trim (a :: r) = a :: b :: t := by
        show (match trim r with | [] => if a = 0 then [] else [a] | b :: t => a :: b :: t) = _
        rw [e]
      rw [e1]
      rw [e] at ih
      show (match trim (b :: t) with | [] => if a = 0 then [] else [a] | b :: t => a :: b :: t) = _
      rw [ih]
theorem trim_last : ∀ {p : List Int}, trim p = p → p ≠ [] → ∃ (q : List Int) (c : Int), p = q ++ [c] ∧ c ≠ 0
  | [], _, h => absurd rfl h
  | a :: r, h, _ => by
    have h' : (match trim r with | [] => if a = 0 then [] else [a] | b :: t => a :: b :: t) = a :: r := h
    cases e : trim r with
    | nil =>
      rw [e] at h'
      have h2 : (if a = 0 then [] else [a]) = a :: r := h'
      by_cases z : a = 0
      · rw [if_pos z] at h2
        cases h2
      · rw [if_neg z] at h2
        have er : r = [] := (List.cons.inj h2).2.symm
        rw [er]
        exact ⟨[], a, rfl, z⟩
    | cons b t =>
      rw [e] at h'
      have h2 : a :: b :: t = a :: r := h'
      have er : b :: t = r := (List.cons.inj h2).2
      have hr : trim r = r := by rw [e, er]
      obtain ⟨q, c, e3, hc⟩ := trim_last hr (by rw [← er]; simp)
      exact ⟨a :: q, c, by rw [e3]; rfl, hc⟩
theorem dif_trim (p : List Int) : trim (dif p) = dif p := trim_trim _
/-- a trimmed polynomial has one sign from where its parts are passed -/
theorem trim_sign {B : Nat} {p : List Int} (ht : trim p = p) (h : Cf B p) : ∃ s : Int, (s = 0 ↔ p = []) ∧ (s = 0 ∨ s = 1 ∨ s = -1) ∧ ∀ x : Int, 2 ^ B ≤ x → sgX (ev p x) = s := by
  by_cases e : p = []
  · exact ⟨0, ⟨fun _ => e, fun _ => rfl⟩, .inl rfl, fun x _ => by rw [e]; rfl⟩
  · obtain ⟨q, c, ep, hc⟩ := trim_last ht e
    refine ⟨sgX c, ⟨fun z => absurd (sgX_eq_zero.mp z) hc, fun z => absurd z e⟩, ?_, fun x hx => ?_⟩
    · rcases sgX_cases c with ⟨_, z⟩ | ⟨_, z⟩ | ⟨_, z⟩ <;> rw [z] <;> simp
    · rw [ep]
      have pp : (0 : Int) < 2 ^ B := Int.pow_pos (by decide)
      refine ev_lead (B := 2 ^ B - 1) (by omega) (by omega) (fun d hd => ?_) hc
      have := h d (by rw [ep]; exact List.mem_append_left _ hd)
      have e2 : ((2 ^ B : Nat) : Int) = (2 : Int) ^ B := Int.natCast_pow 2 B
      omega
/-- what falls all along comes below nought -/
theorem falls_below {f : Int → Int} {N : Int} (h : ∀ x, N ≤ x → dl f x ≤ -1) : ∃ x, N ≤ x ∧ f x < 0 := by
  have st : ∀ n : Nat, f (N + n) ≤ f N - n := fun n => by
    induction n with
    | zero => show f (N + 0) ≤ f N - 0; rw [Int.add_zero]; omega
    | succ n ih =>
      have := h (N + n) (by omega)
      have e : dl f (N + n) = f (N + n + 1) - f (N + n) := rfl
      rw [show N + ((n + 1 : Nat) : Int) = N + n + 1 by omega]
      omega
  refine ⟨N + ((f N).toNat + 1 : Nat), by omega, ?_⟩
  have := st ((f N).toNat + 1)
  omega
theorem rises_above {f : Int → Int} {N : Int} (h : ∀ x, N ≤ x → 1 ≤ dl f x) : ∃ x, N ≤ x ∧ 0 < f x := by
  obtain ⟨x, h1, h2⟩ := falls_below (f := fun z => - f z) (N := N) fun x hx => by
    have := h x hx
    show -f (x + 1) - -f x ≤ -1
    have e : dl f x = f (x + 1) - f x := rfl
    omega
  exact ⟨x, h1, by omega⟩
/-- from some number on a polynomial is endless -/
theorem endless_far {B : Nat} {p : List Int} (ht : trim p = p) (hp : p ≠ []) (h : Cf B p) (hl : p.length ≤ 10) : ∃ s : Int, s ≠ 0 ∧ (∀ x : Int, 2 ^ (B + 410) ≤ x → sgX (ev p x) = s) ∧ ∀ x : Int, 2 ^ (B + 410) ≤ x → EndlessP p x s := by
  have cf : ∀ k : Nat, k ≤ 10 → Cf (B + 410) (difk k p) := fun k hk c hc => Nat.lt_of_lt_of_le (difk_cf h hl k hk c hc) (Nat.pow_le_pow_right (by decide) (by omega))
  have tr : ∀ k : Nat, trim (difk k p) = difk k p := fun k => by
    cases k with
    | zero => exact ht
    | succ k => exact dif_trim _
  obtain ⟨s, s0, s1, hs⟩ := trim_sign ht (cf 0 (by omega))
  have hs0 : s ≠ 0 := fun z => hp (s0.mp z)
  have key : ∀ k : Nat, k ≤ 10 → ∃ t : Int, (t = 0 ∨ t = s) ∧ (t = 0 → difk k p = []) ∧ ∀ x : Int, 2 ^ (B + 410) ≤ x → sgX (ev (difk k p) x) = t := fun k => by
    induction k with
    | zero => exact fun _ => ⟨s, .inr rfl, fun z => absurd z hs0, hs⟩
    | succ k ih =>
      intro hk
      obtain ⟨t, t1, t2, t3⟩ := ih (by omega)
      obtain ⟨u, u0, u1, hu⟩ := trim_sign (tr (k + 1)) (cf (k + 1) hk)
      by_cases e : u = 0
      · exact ⟨0, .inl rfl, fun _ => u0.mp e, fun x hx => by rw [hu x hx, e]⟩
      · refine ⟨u, .inr ?_, fun z => absurd z e, hu⟩
        have ts : t = s := by
          rcases t1 with z | z
          · have := t2 z
            have d : difk (k + 1) p = [] := by
              show dif (difk k p) = []
              rw [this]
              rfl
            exact absurd (u0.mpr d) e
          · exact z
        have dle : ∀ x, dl (ev (difk k p)) x = ev (difk (k + 1) p) x := fun x => congrFun (difk_ev p k) x
        rcases u1 with z | z | z
        · exact absurd z e
        · obtain ⟨x, h1, h2⟩ := rises_above (f := ev (difk k p)) (N := 2 ^ (B + 410)) fun x hx => by
            have := hu x hx
            rw [z, sgX_one] at this
            rw [dle]
            omega
          have := t3 x h1
          rw [sgX_one.mpr h2] at this
          omega
        · obtain ⟨x, h1, h2⟩ := falls_below (f := ev (difk k p)) (N := 2 ^ (B + 410)) fun x hx => by
            have := hu x hx
            rw [z, sgX_neg1] at this
            rw [dle]
            omega
          have := t3 x h1
          rw [sgX_neg1.mpr h2] at this
          omega
  refine ⟨s, hs0, hs, fun x hx => ⟨hs x hx, fun j j1 j2 => ?_⟩⟩
  obtain ⟨t, t1, _, t3⟩ := key j (by omega)
  rw [dk_ev, t3 x hx]
  rcases t1 with z | z <;> rw [z] <;> omega
/-! ### rows that show -/
structure WRow where
  k : Str
  lo : Int
  hi : Option Int
inductive Shows (sts : List Stretch) (sl : Stretch) (lead : List Int) (s : Int) : WRow → Int → Option Int → Prop where
  | sizes {lo hi : Int} {q : List Int} (h0 : 0 ≤ lo) (h1 : lo ≤ hi) (h2 : figs lo = figs hi) (h3 : ∀ n, lo ≤ n → n ≤ hi → stPw sts n = stPw sts lo) (h4 : trim q = q) (h5 : ∀ n, ev q n = pwEv (stPw sts lo) (figs lo) n) (h6 : SteadyP q lo hi s) : Shows sts sl lead s ⟨"sizes", lo, some hi⟩ lo (some (hi + 1))
  | endless {lo : Int} (h0 : MayLow sl lo) (h1 : EndlessP lead lo s) : Shows sts sl lead s ⟨"figures", lo, none⟩ (2 ^ (lo.toNat - 1)) none
  | figures {lo hi : Int} (h0 : MayLow sl lo) (h1 : lo ≤ hi) (h2 : SteadyP lead lo hi s) : Shows sts sl lead s ⟨"figures", lo, some hi⟩ (2 ^ (lo.toNat - 1)) (some (2 ^ hi.toNat))
  | block {lo : Int} (h0 : MayLow sl lo) (h1 : blockSg sl.2 lo = s) : Shows sts sl lead s ⟨"block", lo, some lo⟩ (2 ^ (lo.toNat - 1)) (some (2 ^ lo.toNat))
/-- rows as they are found, the last one first -/
inductive Chn (sts : List Stretch) (sl : Stretch) (lead : List Int) (s : Int) : List WRow → Int → Prop where
  | one {r : WRow} {a : Int} (h : Shows sts sl lead s r a none) : Chn sts sl lead s [r] a
  | snoc {rs : List WRow} {cur a : Int} {r : WRow} (c : Chn sts sl lead s rs cur) (h : Shows sts sl lead s r a (some cur)) : Chn sts sl lead s (rs ++ [r]) a
theorem figs_ge_of {n : Int} {k : Nat} (h : (2 : Int) ^ (k - 1) ≤ n) (hk : 1 ≤ k) : k ≤ figs n := by
  refine Nat.not_lt.mp fun z => ?_
  have pp : (0 : Int) < 2 ^ (k - 1) := Int.pow_pos (by decide)
  have := figs_lt (n := n) (by omega)
  have := pow2_le (i := figs n) (j := k - 1) (by omega)
  omega
theorem leastOf_pos (st : Stretch) : 1 ≤ leastOf st := by
  unfold leastOf
  omega
/-- what a lead's sign tells of a size -/
theorem lead_tells {sts ini : List Stretch} {sl : Stretch} {p0 : Nat × List Int} {r : Pw} (est : sts = ini ++ [sl]) (hr : (sts.map (·.1)).Pairwise (· < ·)) (esl : sl.2 = p0 :: r) (hf : sl.2.Pairwise fun a b => b.1 < a.1) {n f : Int} (hn : 0 ≤ n) (hL : (figs n : Int) = f) (hm : MayLow sl f) :
    dfc sts n = pwEv sl.2 f n ∧ (ev p0.2 f ≠ 0 → sgX (dfc sts n) = sgX (ev p0.2 f)) ∧ sgX (dfc sts n) = blockSg sl.2 f := by
  obtain ⟨w1, w2, w3⟩ := hm.wt hL hn
  have e : dfc sts n = pwEv sl.2 f n := by
    unfold dfc
    rw [est]
    rw [est] at hr
    rw [stPw_last hr w3, hL]
  have f0 : 0 ≤ f := by rw [← hL]; omega
  refine ⟨e, fun hz => ?_, ?_⟩
  · rw [e, esl]
    rw [esl] at hf w1
    have w1' : wtA r f < n := w1
    exact lead_sign hf w2 (Int.lt_of_le_of_lt (wt_le_wtA f0 r) w1') hz
  · rw [e]
    exact block_sign hf f0 w2 w1
theorem Shows.tells {sts ini : List Stretch} {sl : Stretch} {p0 : Nat × List Int} {r : Pw} {s : Int} (est : sts = ini ++ [sl]) (hr : (sts.map (·.1)).Pairwise (· < ·)) (esl : sl.2 = p0 :: r) (hf : sl.2.Pairwise fun a b => b.1 < a.1) (hs : s ≠ 0) {w : WRow} {a : Int} {b : Option Int} (h : Shows sts sl p0.2 s w a b) :
    0 ≤ a ∧ (∀ b', b = some b' → a < b') ∧ ∀ n, a ≤ n → (∀ b', b = some b' → n < b') → sgX (dfc sts n) = s := by
  have pp : ∀ k : Nat, (0 : Int) < 2 ^ k := fun k => Int.pow_pos (by decide)
  cases h with
  | @sizes lo hi q h0 h1 h2 h3 h4 h5 h6 =>
    refine ⟨h0, fun b' e => by cases e; omega, fun n n1 n2 => ?_⟩
    have n3 := n2 _ rfl
    have fg : figs n = figs a := by
      have a1 := figs_mono h0 n1
      have a2 := figs_mono (a := n) (n := hi) (by omega) (by omega)
      omega
    have e : dfc sts n = ev q n := by
      unfold dfc
      rw [h3 n n1 (by omega), fg, h5]
    rw [e]
    exact h6.all h1 n n1 (by omega)
  | @endless lo h0 h1 =>
    have l1 : 1 ≤ lo := Int.le_trans (leastOf_pos sl) h0.1
    refine ⟨by have := pp (lo.toNat - 1); omega, fun b' e => (by cases e), fun n n1 _ => ?_⟩
    have n0 : 0 ≤ n := by have := pp (lo.toNat - 1); omega
    have g := figs_ge_of (n := n) (k := lo.toNat) n1 (by omega)
    have m := h0.mono (g := (figs n : Int)) (by omega)
    have sg := h1.all hs (figs n : Int) (by omega)
    rw [(lead_tells est hr esl hf n0 rfl m).2.1 (fun z => hs (by rw [← sg, z]; rfl))]
    exact sg
  | @figures lo hi h0 h1 h2 =>
    have l1 : 1 ≤ lo := Int.le_trans (leastOf_pos sl) h0.1
    refine ⟨by have := pp (lo.toNat - 1); omega, fun b' e => ?_, fun n n1 n2 => ?_⟩
    · cases e
      have := pow2_le (i := lo.toNat - 1 + 1) (j := hi.toNat) (by omega)
      rw [Int.pow_succ] at this
      have := pp (lo.toNat - 1)
      omega
    have n0 : 0 ≤ n := by have := pp (lo.toNat - 1); omega
    have g := figs_ge_of (n := n) (k := lo.toNat) n1 (by omega)
    have g2 := figs_le_of (n := n) (k := hi.toNat) n0 (n2 _ rfl)
    have m := h0.mono (g := (figs n : Int)) (by omega)
    have sg := h2.all h1 (figs n : Int) (by omega) (by omega)
    rw [(lead_tells est hr esl hf n0 rfl m).2.1 (fun z => hs (by rw [← sg, z]; rfl))]
    exact sg
  | @block lo h0 h1 =>
    have l1 : 1 ≤ lo := Int.le_trans (leastOf_pos sl) h0.1
    refine ⟨by have := pp (lo.toNat - 1); omega, fun b' e => ?_, fun n n1 n2 => ?_⟩
    · cases e
      have e2 : lo.toNat = lo.toNat - 1 + 1 := by omega
      rw [e2, Int.pow_succ]
      have := pp (lo.toNat - 1)
      rw [show lo.toNat - 1 + 1 - 1 = lo.toNat - 1 by omega]
      omega
    have n0 : 0 ≤ n := by have := pp (lo.toNat - 1); omega
    have g := figs_ge_of (n := n) (k := lo.toNat) n1 (by omega)
    have g2 := figs_le_of (n := n) (k := lo.toNat) n0 (n2 _ rfl)
    rw [(lead_tells est hr esl hf n0 (f := lo) (by omega) h0).2.2]
    exact h1
theorem Chn.tells {sts ini : List Stretch} {sl : Stretch} {p0 : Nat × List Int} {r : Pw} {s : Int} (est : sts = ini ++ [sl]) (hr : (sts.map (·.1)).Pairwise (· < ·)) (esl : sl.2 = p0 :: r) (hf : sl.2.Pairwise fun a b => b.1 < a.1) (hs : s ≠ 0) {ws : List WRow} {a : Int} (h : Chn sts sl p0.2 s ws a) :
    0 ≤ a ∧ ∀ n, a ≤ n → sgX (dfc sts n) = s := by
  induction h with
  | one h =>
    obtain ⟨a1, _, a3⟩ := h.tells est hr esl hf hs
    exact ⟨a1, fun n hn => a3 n hn fun b' e => nomatch e⟩
  | @snoc rs cur a r c h ih =>
    obtain ⟨a1, a2, a3⟩ := h.tells est hr esl hf hs
    refine ⟨a1, fun n hn => ?_⟩
    by_cases z : cur ≤ n
    · exact ih.2 n z
    · exact a3 n hn fun b' e => by cases e; omega
end OG

set_option Elab.async false
set_option linter.all false
set_option maxRecDepth 100000
set_option maxHeartbeats 4000000
namespace OG
open PySem PySem.Spec PyProof.Rows L2
/-! ### contracts of stretches, with figures -/
structure StsO (sts : List Stretch) : Prop where
  first : (sts.head?.map (·.1)) = some 0
  rises : (sts.map (·.1)).Pairwise (· < ·)
  short : sts.length ≤ 16
def spCellsF : Sp := fun vs H Q _ => ∃ (lo hi : Int) (C : Nat), vs = [.int lo, .int hi] ∧ 0 ≤ lo ∧ hi < 2 ^ C ∧ C ≤ 40000 ∧ ∀ (b : Addr) (us : List V) (cs : List Cell) (H' : Hp), Same H H' → H b = none → H' b = some (.lst us) → us.length = cs.length → (lo ≤ hi → cs.length + figs lo ≤ figs hi + 1) → (hi < lo → cs = []) → (∀ (i : Nat) (u : V) (c : Cell), us[i]? = some u → cs[i]? = some c → CellAt H' u c) → (CellsP lo hi cs) → Q (.ref b) H'
def spFallF : Sp := fun vs H Q _ => ∃ (S : Addr) (sts : List Stretch) (hi : Int) (C : Nat), vs = [.ref S, .int hi] ∧ StsAt H S sts ∧ StsO sts ∧ hi < 2 ^ C ∧ C ≤ 40000 ∧ -1 ≤ hi ∧ (∀ st ∈ sts, st.1 ≤ hi + 1) ∧
  ∀ (b : Addr) (us : List V) (cs : List FCell) (H' : Hp), Same H H' → H b = none → H' b = some (.lst us.reverse) → FcsAt H S sts H' us cs → cs.length ≤ C + 20 → FcP sts 0 hi cs → Q (.ref b) H'
structure PwF (W : Nat) (pw : Pw) : Prop where
  falls : pw.Pairwise fun a b => b.1 < a.1
  low : ∀ p ∈ pw, p.1 + 1 ≤ W
def spPutInF : Sp := fun vs H Q _ => ∃ (l : Addr) (pw : Pw) (L : Int) (B W : Nat), vs = [.ref l, .int L] ∧ PwAt H l pw ∧ PwF W pw ∧ W ≤ 10 ∧ pw.length ≤ 20 ∧ (∀ p ∈ pw, POk p.2 L) ∧ (∀ p ∈ pw, (ev p.2 L).natAbs < 2 ^ B) ∧
  ∀ (b : Addr) (q : List Int) (H' : Hp), Same H H' → H b = none → LAt H' b q → (∀ n, ev q n = pwEv pw L n) → q.length ≤ W → Cf B q → trim q = q → Q (.ref b) H'
def spLeastF : Sp := fun vs H Q _ => ∃ (v : V) (st : Stretch), vs = [v] ∧ StAt H v st ∧ st.2 ≠ [] ∧ st.2.length ≤ 20 ∧ (∀ p ∈ st.2, p.2 ≠ []) ∧ (∀ p ∈ st.2, p.2.length ≤ 10) ∧ ∀ H', Same H H' → Q (.int (leastOf st)) H'
/-- a stretch whose weights may be asked -/
structure SlOk (B : Nat) (st : Stretch) : Prop where
  ne : st.2 ≠ []
  few : st.2.length ≤ 20
  polys : ∀ p ∈ st.2, p.2 ≠ [] ∧ p.2.length ≤ 10 ∧ Cf B p.2
def spMayLowF : Sp := fun vs H Q _ => ∃ (v : V) (st : Stretch) (f : Int) (B : Nat), vs = [v, .int f] ∧ StAt H v st ∧ SlOk B st ∧ B ≤ 3000 ∧ 0 < B ∧ f.natAbs < 2 ^ 3000 ∧ ∀ H', Same H H' → Q (.bl (decide (MayLow st f))) H'
def spFirstLowF : Sp := fun vs H Q _ => ∃ (v : V) (st : Stretch) (B F : Nat), vs = [v] ∧ StAt H v st ∧ SlOk B st ∧ B ≤ 3000 ∧ 0 < B ∧ F ≤ 30000 ∧ MayLow st F ∧ ∀ (low : Nat) (H' : Hp), Same H H' → 1 ≤ low → low ≤ F → MayLow st low → Q (.int low) H'
theorem cf_abs {B : Nat} {p : List Int} (h : Cf B p) : Cf B (absL p) := fun c hc => by
  obtain ⟨d, hd, rfl⟩ := List.mem_map.mp hc
  have := h d hd
  show ((d.natAbs : Int)).natAbs < 2 ^ B
  omega
theorem SlOk.pok {B C : Nat} {st : Stretch} (h : SlOk B st) (hB : 0 < B) {L : Int} (hL : L.natAbs < 2 ^ C) (hb : B + 11 * (C + 1) ≤ 400000) : ∀ p ∈ st.2, POk p.2 L ∧ POk (absL p.2) L := fun p hp => by
  obtain ⟨_, l, c⟩ := h.polys p hp
  have m : (p.2.length + 1) * (C + 1) ≤ 11 * (C + 1) := Nat.mul_le_mul_right _ (by omega)
  refine ⟨⟨by omega, B, C, c, hL, hB, by omega⟩, ⟨by rw [absL_len]; omega, B, C, cf_abs c, hL, hB, by rw [absL_len]; omega⟩⟩
theorem deep_mem : ∀ {pw : Pw}, pw ≠ [] → ∃ p ∈ pw, deepOf pw = p.2.length - 1
  | [p], _ => ⟨p, List.mem_cons_self, by show max (p.2.length - 1) 0 = _; omega⟩
  | p :: x :: r, _ => by
    obtain ⟨y, hy, e⟩ := deep_mem (pw := x :: r) (by simp)
    have e2 : deepOf (p :: x :: r) = max (p.2.length - 1) (deepOf (x :: r)) := rfl
    by_cases c : deepOf (x :: r) ≤ p.2.length - 1
    · exact ⟨p, List.mem_cons_self, by rw [e2]; omega⟩
    · exact ⟨y, List.mem_cons_of_mem _ hy, by rw [e2]; omega⟩
theorem deep_ge : ∀ {pw : Pw}, ∀ p ∈ pw, p.2.length - 1 ≤ deepOf pw
  | x :: r, p, h => by
    have e2 : deepOf (x :: r) = max (x.2.length - 1) (deepOf r) := rfl
    rcases List.mem_cons.mp h with rfl | h
    · omega
    · have := deep_ge p h
      omega
theorem deep_le {pw : Pw} (h : ∀ p ∈ pw, p.2.length ≤ 10) : deepOf pw ≤ 9 := by
  cases pw with
  | nil => exact Nat.zero_le _
  | cons x r =>
    obtain ⟨p, hp, e⟩ := deep_mem (pw := x :: r) (by simp)
    have := h p hp
    omega
theorem deep_max {pw : Pw} (hn : ∀ p ∈ pw, p.2 ≠ []) {m : Int} (hm : m ∈ pw.map fun p => (p.2.length : Int) - 1) (hx : ∀ y ∈ pw.map fun p => (p.2.length : Int) - 1, y ≤ m) : m = (deepOf pw : Int) := by
  obtain ⟨p, hp, rfl⟩ := List.mem_map.mp hm
  have l0 : ∀ p ∈ pw, 0 < p.2.length := fun p hp => List.length_pos_iff.mpr (hn p hp)
  obtain ⟨y, hy, e⟩ := deep_mem (pw := pw) (fun z => by rw [z] at hp; cases hp)
  have a := hx _ (List.mem_map.mpr ⟨y, hy, rfl⟩)
  have b := deep_ge p hp
  have := l0 p hp
  have := l0 y hy
  omega
def spBlockF : Sp := fun vs H Q _ => ∃ (l : Addr) (pw : Pw) (f : Int), vs = [.ref l, .int f] ∧ PwAt H l pw ∧ (∀ p ∈ pw, POk p.2 f) ∧ Q (.int (blockSg pw f)) H
end OG

set_option Elab.async false
set_option linter.all false
set_option maxRecDepth 100000
set_option maxHeartbeats 4000000
namespace OG
open PySem PySem.Spec PyProof.Rows L2
/-! ### rows on the heap -/
def hiV : Option Int → V
  | none => .non
  | some h => .int h
def WAt (H : Hp) (u : V) (r : WRow) : Prop := ∃ t, u = .ref t ∧ H t = some (.tup [.str r.k, .int r.lo, hiV r.hi])
def WsAt (H : Hp) (us : List V) (rs : List WRow) : Prop := us.length = rs.length ∧ ∀ (i : Nat) (u : V) (r : WRow), us[i]? = some u → rs[i]? = some r → WAt H u r
theorem WAt.to {H H' : Hp} {u : V} {r : WRow} (h : WAt H u r) (i : Imm H H') : WAt H' u r := by
  obtain ⟨t, e, ht⟩ := h
  exact ⟨t, e, i _ _ ht⟩
theorem WsAt.to {H H' : Hp} {us : List V} {rs : List WRow} (h : WsAt H us rs) (i : Imm H H') : WsAt H' us rs := ⟨h.1, fun j u r a b => (h.2 j u r a b).to i⟩
theorem ws_nil (H : Hp) : WsAt H [] [] := ⟨rfl, fun _ _ _ h => by simp at h⟩
theorem WsAt.app {H : Hp} {us us2 : List V} {rs rs2 : List WRow} (h : WsAt H us rs) (k : WsAt H us2 rs2) : WsAt H (us ++ us2) (rs ++ rs2) := by
  refine ⟨by rw [List.length_append, List.length_append, h.1, k.1], fun i u r hu hr => ?_⟩
  by_cases c : i < us.length
  · rw [List.getElem?_append_left c] at hu
    rw [List.getElem?_append_left (by have := h.1; omega)] at hr
    exact h.2 i u r hu hr
  · rw [List.getElem?_append_right (by omega)] at hu
    rw [List.getElem?_append_right (by have := h.1; omega)] at hr
    rw [← h.1] at hr
    exact k.2 _ u r hu hr
theorem ws_one {H : Hp} {u : V} {r : WRow} (h : WAt H u r) : WsAt H [u] [r] := by
  refine ⟨rfl, fun i u' r' hu hr => ?_⟩
  cases i with
  | zero =>
    cases hu
    cases hr
    exact h
  | succ i => simp at hu
theorem WsAt.snoc {H : Hp} {us : List V} {rs : List WRow} {u : V} {r : WRow} (h : WsAt H us rs) (k : WAt H u r) : WsAt H (us ++ [u]) (rs ++ [r]) := h.app (ws_one k)
/-- a heap in which a list is exchanged keeps tuples -/
theorem imm_upd {H H' : Hp} {p : Addr} {o : HO} {xs : List V} (s : Same H H') (hp : H' p = some (.lst xs)) : Imm H (upd H' p o) := (Imm.same s).upd fun ys e => by rw [s _ _ e] at hp; cases hp
/-! ### rows of sizes, downwards -/
inductive DownS (q : List Int) (s : Int) : List WRow → Int → Int → Prop where
  | nil (t : Int) : DownS q s [] t t
  | snoc {rs : List WRow} {top a b : Int} (h : DownS q s rs top (b + 1)) (hab : a ≤ b) (st : SteadyP q a b s) : DownS q s (rs ++ [⟨"sizes", a, some b⟩]) top a
theorem DownS.le {q : List Int} {s : Int} {rs : List WRow} {top bot : Int} (h : DownS q s rs top bot) : bot ≤ top := by
  induction h with
  | nil t => exact Int.le_refl _
  | snoc h hab st ih => omega
theorem Chn.down {sts : List Stretch} {sl : Stretch} {lead : List Int} {s : Int} {ws rs : List WRow} {q : List Int} {top bot a z L : Int} {pw : Pw} (d : DownS q s rs top bot) (ha : 0 ≤ a) (hb : a ≤ bot) (ht : top ≤ z + 1) (hc : ∀ n, a ≤ n → n ≤ z → (figs n : Int) = L ∧ stPw sts n = pw) (hq : trim q = q) (he : ∀ n, ev q n = pwEv pw L n)
    (c : Chn sts sl lead s ws top) : Chn sts sl lead s (ws ++ rs) bot := by
  induction d with
  | nil t => rw [List.append_nil]; exact c
  | @snoc rs top a' b' h hab st ih =>
    have l := h.le
    have c1 := ih (by omega) ht c
    rw [← List.append_assoc]
    have e1 := hc a' (by omega) (by omega)
    have e2 := hc b' (by omega) (by omega)
    refine .snoc c1 (.sizes (q := q) (by omega) hab (by omega) (fun n n1 n2 => by rw [(hc n (by omega) (by omega)).2, e1.2]) hq (fun n => ?_) st)
    rw [e1.1, e1.2]
    exact he n
/-- what a look through sizes from high down comes to: None, or the greatest wrong one -/
def spSizesF : Sp := fun vs H Q _ => ∃ (a : Addr) (p : List Int) (lo hi s : Int), vs = [.ref a, .int lo, .int hi, .int s] ∧ LAt H a p ∧ lo ≤ hi ∧ p.length ≤ 10 ∧ (∀ k : Nat, PIn (difk k p) lo hi) ∧
  ∀ (t lr : Addr) (us : List V) (rs : List WRow) (v : V) (H' : Hp), Same H H' → H lr = none → H' t = some (.tup [.ref lr, v]) → H' lr = some (.lst us) → WsAt H' us rs → us.length ≤ 3 ^ (p.length - 1 + 1) →
    ((v = .non ∧ DownS p s rs (hi + 1) lo) ∨ ∃ m : Int, v = .int m ∧ lo ≤ m ∧ m ≤ hi ∧ sgX (ev p m) ≠ s ∧ DownS p s rs (hi + 1) (m + 1)) → Q (.ref t) H'
/-! ### rows of figures -/
structure LeadOk (B : Nat) (lead : List Int) (s : Int) : Prop where
  tr : trim lead = lead
  ne : lead ≠ []
  cf : Cf B lead
  len : lead.length ≤ 10
  s0 : s ≠ 0
  ends : ∀ x : Int, 2 ^ (B + 410) ≤ x → EndlessP lead x s
  root : ∀ f : Int, 2 ^ 61 ≤ f → sgX (ev lead f) = s
def spFigRowsF : Sp := fun vs H Q _ => ∃ (l : Addr) (sts : List Stretch) (sl : Stretch) (p0 : Nat × List Int) (r : Pw) (B : Nat) (low s : Int), vs = [.ref l, .int low, .int s] ∧ PwAt H l (p0 :: r) ∧ sl.2 = p0 :: r ∧ SlOk B sl ∧ LeadOk B p0.2 s ∧ B ≤ 2000 ∧ 0 < B ∧ low ≤ 30000 ∧ MayLow sl low ∧
  ∀ (t lr : Addr) (us : List V) (rs : List WRow) (v : V) (H' : Hp), Same H H' → H lr = none → H' t = some (.tup [.ref lr, v]) → H' lr = some (.lst us) → WsAt H' us rs → us.length ≤ 1000000 →
    ((v = .non ∧ Chn sts sl p0.2 s rs (2 ^ (low.toNat - 1))) ∨ ∃ f : Int, v = .int f ∧ low ≤ f ∧ blockSg sl.2 f ≠ s ∧ Chn sts sl p0.2 s rs (2 ^ f.toNat)) → Q (.ref t) H'
theorem endless_start {B : Nat} {p : List Int} (ht : trim p = p) (hp : p ≠ []) (h : Cf B p) (hl : p.length ≤ 10) : ∃ s : Int, s ≠ 0 ∧ ∀ x : Int, 2 ^ (B + 410) ≤ x → EndlessP p x s := by
  obtain ⟨s, h1, _, h3⟩ := endless_far ht hp h hl
  exact ⟨s, h1, h3⟩
/-- a polynomial that has a sign is nought at few numbers in a row -/
theorem zero_run {p : List Int} {a b : Int} (hp : ∃ x, ev p x ≠ 0) (h : ∀ x, a ≤ x → x ≤ b → ev p x = 0) (hl : p.length ≤ 10) : b - a < 10 := by
  refine Int.not_le.mp fun z => ?_
  obtain ⟨x, hx⟩ := hp
  exact hx (noughts (x0 := a) p.length (Nat.le_refl _) (fun i hi => h _ (by omega) (by omega)) x)
end OG

set_option Elab.async false
set_option linter.all false
set_option maxRecDepth 100000
set_option maxHeartbeats 4000000
namespace OG
open PySem PySem.Spec PyProof.Rows L2
/-! ### the difference of two rows of terms, with figures -/
def LowU (t : Term) : Prop := t.2.2 = 1 ∨ t.2.2 = 2
def VF : List Term → Int → Int → Int
  | [], _, _ => 0
  | t :: r, n, L => v2 t.2 * n ^ t.1.1.toNat * L ^ t.1.2.toNat + VF r n L
theorem fold_VF (n : Int) : ∀ (ts : List Term) (acc : Int × Int) (W : Int), (∀ t ∈ ts, LowU t) → 0 < acc.2 → acc.1 * 2 = W * acc.2 → (ts.foldl (addT n) acc).1 * 2 = (W + VF ts n (figs n)) * (ts.foldl (addT n) acc).2 ∧ 0 < (ts.foldl (addT n) acc).2
  | [], acc, W, _, h0, h => ⟨by show acc.1 * 2 = (W + 0) * acc.2; rw [Int.add_zero]; exact h, h0⟩
  | t :: r, acc, W, ht, h0, h => by
    have hu : t.2.2 = 1 ∨ t.2.2 = 2 := ht t List.mem_cons_self
    have hup : 0 < t.2.2 := by omega
    have h22 : (2 / t.2.2) * t.2.2 = 2 := by
      rcases hu with e | e <;> rw [e] <;> decide
    have st : (addT n acc t).1 * 2 = (W + v2 t.2 * n ^ t.1.1.toNat * (figs n : Int) ^ t.1.2.toNat) * (addT n acc t).2 := by
      show (acc.1 * t.2.2 + moreOf n t * acc.2) * 2 = (W + t.2.1 * (2 / t.2.2) * n ^ t.1.1.toNat * (figs n : Int) ^ t.1.2.toNat) * (acc.2 * t.2.2)
      unfold moreOf
      generalize n ^ t.1.1.toNat = N
      generalize (figs n : Int) ^ t.1.2.toNat = M
      generalize hq : 2 / t.2.2 = q at h22
      have e1 : (W + t.2.1 * q * N * M) * (acc.2 * t.2.2) = (W * acc.2) * t.2.2 + t.2.1 * N * M * acc.2 * (q * t.2.2) := by grind
      rw [e1, ← h, h22]
      grind
    have := fold_VF n r (addT n acc t) _ (fun x hx => ht x (List.mem_cons_of_mem _ hx)) (Int.mul_pos h0 hup) st
    rw [Int.add_assoc] at this
    exact this
theorem sum_VF {n : Int} {ts : List Term} (h : ∀ t ∈ ts, LowU t) : (sumUp n ts).1 * 2 = VF ts n (figs n) * (sumUp n ts).2 ∧ 0 < (sumUp n ts).2 := by
  have := fold_VF n ts (0, 1) 0 h (by decide) (by decide)
  rw [Int.zero_add] at this
  exact this
theorem dif2_signF {rs1 rs2 : List Row} {n : Int} (h1 : ∀ t ∈ rowTs rs1 n, LowU t) (h2 : ∀ t ∈ rowTs rs2 n, LowU t) : sgX (dif2 rs1 rs2 n) = sgX (VF (rowTs rs1 n) n (figs n) - VF (rowTs rs2 n) n (figs n)) := by
  obtain ⟨a1, a2⟩ := sum_VF (n := n) h1
  obtain ⟨b1, b2⟩ := sum_VF (n := n) h2
  unfold dif2 worthOf
  generalize sumUp n (rowTs rs1 n) = X at a1 a2
  generalize sumUp n (rowTs rs2 n) = Y at b1 b2
  generalize VF (rowTs rs1 n) n (figs n) = v at a1
  generalize VF (rowTs rs2 n) n (figs n) = u at b1
  have c1 := low_cross (o := X.1) (u := X.2) (by omega)
  have c2 := low_cross (o := Y.1) (u := Y.2) (by omega)
  have p1 := (low_facts (o := X.1) (u := X.2) (by omega)).2.2.2.2
  have p2 := (low_facts (o := Y.1) (u := Y.2) (by omega)).2.2.2.2
  generalize lowOf X.1 X.2 = x at c1 p1
  generalize lowOf Y.1 Y.2 = y at c2 p2
  have k : 0 < X.2 * Y.2 := Int.mul_pos a2 b2
  have k2 : 0 < x.2 * y.2 := Int.mul_pos (by omega) (by omega)
  have e : (2 * (X.2 * Y.2)) * (x.1 * y.2 - y.1 * x.2) = ((x.2 * y.2) * (X.2 * Y.2)) * (v - u) := by grind
  have l := sgX_mul (k := 2 * (X.2 * Y.2)) (x := x.1 * y.2 - y.1 * x.2) (by omega)
  rw [← l, e]
  exact sgX_mul (Int.mul_pos k2 k)
theorem VF_set (n L : Int) (k p : Int × Int) : ∀ ds : List Term, VF (setT ds k p) n L = VF ds n L + (v2 p - v2 ((getT ds k).getD (0, 1))) * n ^ k.1.toNat * L ^ k.2.toNat
  | [] => by
    show v2 p * n ^ k.1.toNat * L ^ k.2.toNat + 0 = 0 + (v2 p - 0 * (2 / 1)) * n ^ k.1.toNat * L ^ k.2.toNat
    grind
  | t :: r => by
    unfold setT getT
    by_cases h : t.1 = k
    · rw [if_pos h, if_pos h]
      show v2 p * n ^ k.1.toNat * L ^ k.2.toNat + VF r n L = v2 t.2 * n ^ t.1.1.toNat * L ^ t.1.2.toNat + VF r n L + (v2 p - v2 t.2) * n ^ k.1.toNat * L ^ k.2.toNat
      rw [h]
      grind
    · rw [if_neg h, if_neg h]
      show v2 t.2 * n ^ t.1.1.toNat * L ^ t.1.2.toNat + VF (setT r k p) n L = v2 t.2 * n ^ t.1.1.toNat * L ^ t.1.2.toNat + VF r n L + _
      rw [VF_set n L k p r]
      grind
theorem lowu_get {ds : List Term} (h : ∀ t ∈ ds, LowU t) (k : Int × Int) : ((getT ds k).getD (0, 1)).2 = 1 ∨ ((getT ds k).getD (0, 1)).2 = 2 := by
  cases e : getT ds k with
  | none => exact .inl rfl
  | some o => exact h _ (get_mem e)
theorem step_VF {ds : List Term} {t : Term} (h : ∀ t ∈ ds, LowU t) (ht : LowU t) (n L : Int) : VF (stepT ds t) n L = VF ds n L - v2 t.2 * n ^ t.1.1.toNat * L ^ t.1.2.toNat := by
  have hl : v2 (lessP ((getT ds t.1).getD (0, 1)) t.2) = _ := (less_part (lowu_get h t.1) ht).2.1
  rw [stepT, VF_set, hl]
  grind
theorem stepu_low {ds : List Term} {t : Term} (h : ∀ t ∈ ds, LowU t) (ht : LowU t) : ∀ x ∈ stepT ds t, LowU x := fun x hx => by
  rcases mem_set hx with e | e
  · rw [e]
    exact (less_part (lowu_get h t.1) ht).1
  · exact h x e
/-- unders 1 or 2, keys apart and within nine, noughts written (0, 1) -/
structure DOF (ds : List Term) : Prop where
  low : ∀ t ∈ ds, LowU t
  apart : (ds.map (·.1)).Nodup
  keys : ∀ t ∈ ds, 0 ≤ t.1.1 ∧ t.1.1 ≤ 9 ∧ 0 ≤ t.1.2 ∧ t.1.2 ≤ 9
  zero : ∀ t ∈ ds, v2 t.2 = 0 → t.2 = (0, 1)
theorem stepu_ok {ds : List Term} {t : Term} (h : DOF ds) (ht : LowU t) (hb : 0 ≤ t.1.1 ∧ t.1.1 ≤ 9 ∧ 0 ≤ t.1.2 ∧ t.1.2 ≤ 9) : DOF (stepT ds t) := by
  have lp := less_part (lowu_get h.low t.1) ht
  refine ⟨stepu_low h.low ht, nodup_set h.apart, fun x hx => ?_, fun x hx => ?_⟩
  · rcases mem_set hx with e | e
    · rw [e]
      exact hb
    · exact h.keys x e
  · rcases mem_set hx with e | e
    · rw [e]
      exact lp.2.2.mpr
    · exact h.zero x e
theorem foldu_ok : ∀ (ts : List Term) (ds : List Term), DOF ds → DOF ts → DOF (ts.foldl stepT ds) ∧ ∀ n L, VF (ts.foldl stepT ds) n L = VF ds n L - VF ts n L
  | [], ds, h, _ => ⟨h, fun n L => (Int.sub_zero _).symm⟩
  | t :: r, ds, h, hl => by
    have hr : DOF r := ⟨fun x hx => hl.low x (List.mem_cons_of_mem _ hx), (List.nodup_cons.mp hl.apart).2, fun x hx => hl.keys x (List.mem_cons_of_mem _ hx), fun x hx => hl.zero x (List.mem_cons_of_mem _ hx)⟩
    obtain ⟨h1, h2⟩ := foldu_ok r (stepT ds t) (stepu_ok h (hl.low t List.mem_cons_self) (hl.keys t List.mem_cons_self)) hr
    refine ⟨h1, fun n L => ?_⟩
    show VF (r.foldl stepT (stepT ds t)) n L = VF ds n L - (v2 t.2 * n ^ t.1.1.toNat * L ^ t.1.2.toNat + VF r n L)
    rw [h2 n L, step_VF h.low (hl.low t List.mem_cons_self)]
    omega
theorem VF_filter (n L : Int) : ∀ ds : List Term, VF (ds.filter fun t => decide (t.2 ≠ (0, 1))) n L = VF ds n L
  | [] => rfl
  | t :: r => by
    by_cases h : t.2 = (0, 1)
    · rw [List.filter_cons_of_neg (by simp [h]), VF_filter n L r]
      show VF r n L = v2 t.2 * n ^ t.1.1.toNat * L ^ t.1.2.toNat + VF r n L
      rw [h]
      show VF r n L = 0 * (2 / 1) * _ * _ + VF r n L
      rw [Int.zero_mul, Int.zero_mul, Int.zero_mul, Int.zero_add]
    · rw [List.filter_cons_of_pos (by simp [h])]
      show v2 t.2 * n ^ t.1.1.toNat * L ^ t.1.2.toNat + VF _ n L = v2 t.2 * n ^ t.1.1.toNat * L ^ t.1.2.toNat + VF r n L
      rw [VF_filter n L r]
theorem foldu_bound {c : Nat} : ∀ (ts ds : List Term) (B : Nat), (∀ t ∈ ds, LowU t) → (∀ t ∈ ts, LowU t) → (∀ t ∈ ds, (v2 t.2).natAbs ≤ B) → (∀ t ∈ ts, (v2 t.2).natAbs ≤ c) → ∀ t ∈ ts.foldl stepT ds, (v2 t.2).natAbs ≤ B + c * ts.length
  | [], ds, B, _, _, hb, _ => fun t ht => Nat.le_trans (hb t ht) (Nat.le_add_right _ _)
  | t :: r, ds, B, l1, l2, hb, hc => fun x hx => by
    have lt := l2 t List.mem_cons_self
    have hv : v2 (lessP ((getT ds t.1).getD (0, 1)) t.2) = v2 ((getT ds t.1).getD (0, 1)) - v2 t.2 := (less_part (lowu_get l1 t.1) lt).2.1
    have ho : (v2 ((getT ds t.1).getD (0, 1))).natAbs ≤ B := by
      cases e : getT ds t.1 with
      | none => exact Nat.zero_le _
      | some o => exact hb _ (get_mem e)
    have hct := hc t List.mem_cons_self
    have := foldu_bound r (stepT ds t) (B + c) (stepu_low l1 lt) (fun y hy => l2 y (List.mem_cons_of_mem _ hy)) (fun y hy => by
      rcases mem_set hy with e | e
      · rw [e]
        show (v2 (lessP _ _)).natAbs ≤ B + c
        rw [hv]
        omega
      · exact Nat.le_trans (hb y e) (Nat.le_add_right _ _)) (fun y hy => hc y (List.mem_cons_of_mem _ hy)) x hx
    have e : B + c * (t :: r).length = B + c + c * r.length := by
      rw [List.length_cons, Nat.mul_succ]
      omega
    rw [e]
    exact this
/-- terms that are drawn, within A -/
structure KTF (A : Nat) (ts : List Term) : Prop where
  ok : DOF ts
  few : ts.length ≤ 8
  small : ∀ t ∈ ts, (v2 t.2).natAbs ≤ A
theorem lessF_facts {A : Nat} {ts1 ts2 : List Term} (h1 : KTF A ts1) (h2 : KTF A ts2) : DOF (lessT ts1 ts2) ∧ (∀ t ∈ lessT ts1 ts2, v2 t.2 ≠ 0) ∧ (∀ n L, VF (lessT ts1 ts2) n L = VF ts1 n L - VF ts2 n L) ∧ (∀ t ∈ lessT ts1 ts2, (v2 t.2).natAbs ≤ 9 * A ∧ t.2.1.natAbs ≤ 9 * A) ∧ (lessT ts1 ts2).length ≤ 16 := by
  obtain ⟨ok, val⟩ := foldu_ok ts2 ts1 h1.ok h2.ok
  have mem : ∀ {t}, t ∈ lessT ts1 ts2 → t ∈ ts2.foldl stepT ts1 ∧ t.2 ≠ (0, 1) := fun h => have ⟨a, b⟩ := List.mem_filter.mp h; ⟨a, of_decide_eq_true b⟩
  refine ⟨⟨fun t ht => ok.low t (mem ht).1, (List.Sublist.map _ List.filter_sublist).nodup ok.apart, fun t ht => ok.keys t (mem ht).1, fun t ht => ok.zero t (mem ht).1⟩, fun t ht e => (mem ht).2 (ok.zero t (mem ht).1 e), fun n L => (VF_filter n L _).trans (val n L), fun t ht => ?_, ?_⟩
  · have b := foldu_bound (c := A) ts2 ts1 A h1.ok.low h2.ok.low h1.small h2.small t (mem ht).1
    have l := h2.few
    have e := over_le_v2 (ok.low t (mem ht).1)
    have m : A * ts2.length ≤ A * 8 := Nat.mul_le_mul_left _ l
    omega
  · have l1 := List.length_filter_le (fun t : Term => decide (t.2 ≠ (0, 1))) (ts2.foldl stepT ts1)
    have l2 := fold_len ts2 ts1
    have := h1.few
    have := h2.few
    unfold lessT
    omega
theorem VF_perm {ts us : List Term} (p : ts.Perm us) (n L : Int) : VF ts n L = VF us n L := by
  induction p with
  | nil => rfl
  | cons x _ ih => exact congrArg (v2 x.2 * n ^ x.1.1.toNat * L ^ x.1.2.toNat + ·) ih
  | swap x y l =>
    show v2 y.2 * n ^ y.1.1.toNat * L ^ y.1.2.toNat + (v2 x.2 * n ^ x.1.1.toNat * L ^ x.1.2.toNat + VF l n L) = v2 x.2 * n ^ x.1.1.toNat * L ^ x.1.2.toNat + (v2 y.2 * n ^ y.1.1.toNat * L ^ y.1.2.toNat + VF l n L)
    omega
  | trans _ _ h1 h2 => exact h1.trans h2
/-- one terms_less -/
def spTermsLessF : Sp := fun vs H Q _ => ∃ (l1 l2 : Addr) (ts1 ts2 : List Term), vs = [.ref l1, .ref l2] ∧ TermsAt H l1 ts1 ∧ TermsAt H l2 ts2 ∧ DOF ts1 ∧ DOF ts2 ∧ ts1.length ≤ 100 ∧ ts2.length ≤ 100 ∧
  ∀ F H', Same H H' → DAt H' F (lessT ts1 ts2) → H F = none → Q (.ref F) H'
end OG
namespace OG
theorem DOF.take {ds : List Term} (h : DOF ds) (i : Nat) : DOF (ds.take i) :=
  ⟨fun t ht => h.low t (List.mem_of_mem_take ht), (List.Sublist.map _ (List.take_sublist _ _)).nodup h.apart, fun t ht => h.keys t (List.mem_of_mem_take ht), fun t ht => h.zero t (List.mem_of_mem_take ht)⟩
end OG

set_option Elab.async false
set_option linter.all false
set_option maxRecDepth 100000
set_option maxHeartbeats 4000000
namespace OG
open PySem PySem.Spec PyProof.Rows L2
/-! ### the powers of a stretch, whole, with figures -/
abbrev Mono := Nat × Nat × Int
/-- a polynomial with one greater part more -/
def ext (q : List Int) (f : Nat) (c : Int) : List Int := q ++ List.replicate (f - q.length) 0 ++ [c]
def grp : List Mono → Pw
  | [] => []
  | a :: r => match grp r with
    | [] => [(a.1, ext [] a.2.1 a.2.2)]
    | e :: pw => if e.1 = a.1 then (a.1, ext e.2 a.2.1 a.2.2) :: pw else (a.1, ext [] a.2.1 a.2.2) :: e :: pw
/-- what one term more does at the last entry -/
def stepL : Pw → Mono → Pw
  | [], x => [(x.1, ext [] x.2.1 x.2.2)]
  | [e], x => if e.1 = x.1 then [(e.1, e.2.set x.2.1 x.2.2)] else [e, (x.1, ext [] x.2.1 x.2.2)]
  | e :: e2 :: r, x => e :: stepL (e2 :: r) x
def lexD (a b : Mono) : Prop := b.1 < a.1 ∨ (b.1 = a.1 ∧ b.2.1 < a.2.1)
theorem ext_len {q : List Int} {f : Nat} (c : Int) (h : q.length ≤ f) : (ext q f c).length = f + 1 := by
  unfold ext
  rw [List.length_append, List.length_append, List.length_replicate]
  show q.length + (f - q.length) + 1 = _
  omega
/-- the heads of a grouped list -/
theorem grp_head : ∀ {l : List Mono} {a : Mono}, (a :: l).Pairwise lexD → ∃ q pw, grp (a :: l) = (a.1, q) :: pw ∧ q.length = a.2.1 + 1 ∧ (∀ e ∈ pw, e.1 < a.1)
  | [], a, _ => ⟨_, [], rfl, ext_len _ (Nat.zero_le _), fun _ h => nomatch h⟩
  | b :: l, a, h => by
    obtain ⟨h1, h2⟩ := List.pairwise_cons.mp h
    obtain ⟨q, pw, e, lq, hl⟩ := grp_head h2
    have hab := h1 b List.mem_cons_self
    have e2 : grp (a :: b :: l) = if b.1 = a.1 then (a.1, ext q a.2.1 a.2.2) :: pw else (a.1, ext [] a.2.1 a.2.2) :: (b.1, q) :: pw := by
      show (match grp (b :: l) with
        | [] => [(a.1, ext [] a.2.1 a.2.2)]
        | e :: pw => if e.1 = a.1 then (a.1, ext e.2 a.2.1 a.2.2) :: pw else (a.1, ext [] a.2.1 a.2.2) :: e :: pw) = _
      rw [e]
    by_cases c : b.1 = a.1
    · rw [if_pos c] at e2
      refine ⟨_, pw, e2, ext_len _ ?_, fun x hx => ?_⟩
      · unfold lexD at hab
        omega
      · rw [← c]
        exact hl x hx
    · rw [if_neg c] at e2
      refine ⟨_, _, e2, ext_len _ (Nat.zero_le _), fun x hx => ?_⟩
      have : b.1 < a.1 := by unfold lexD at hab; omega
      rcases List.mem_cons.mp hx with rfl | hx
      · exact this
      · have := hl x hx
        omega
theorem set_ext {q : List Int} {f g : Nat} {c d : Int} (h : f < q.length) : (ext q g d).set f c = ext (q.set f c) g d := by
  unfold ext
  rw [List.set_append_left _ _ (by rw [List.length_append]; omega), List.set_append_left _ _ h, List.length_set]
theorem set_ext_nil {f g : Nat} {c d : Int} (h : f < g) : (ext [] g d).set f c = ext (ext [] f c) g d := by
  unfold ext
  rw [List.nil_append, List.nil_append]
  have l1 : (List.replicate (f - ([] : List Int).length) (0 : Int) ++ [c]).length = f + 1 := by
    rw [List.length_append, List.length_replicate]
    rfl
  rw [l1]
  have z : ([] : List Int).length = 0 := rfl
  rw [z, Nat.sub_zero, Nat.sub_zero]
  refine List.ext_getElem? fun i => ?_
  rw [List.getElem?_set, List.length_append, List.length_replicate]
  by_cases e : f = i
  · subst e
    rw [if_pos rfl, if_pos (by show f < g + 1; omega), List.append_assoc, List.append_assoc, List.getElem?_append_right (by rw [List.length_replicate]; exact Nat.le_refl _), List.length_replicate, Nat.sub_self]
    rfl
  · rw [if_neg e]
    by_cases i1 : i < f
    · rw [List.getElem?_append_left (by rw [List.length_replicate]; omega), List.append_assoc, List.append_assoc, List.getElem?_append_left (by rw [List.length_replicate]; omega), List.getElem?_replicate, List.getElem?_replicate, if_pos (by omega), if_pos i1]
    · by_cases i2 : i < g
      · rw [List.getElem?_append_left (by rw [List.length_replicate]; omega), List.getElem?_replicate, if_pos i2, List.getElem?_append_left (by rw [List.length_append, List.length_append, List.length_replicate, List.length_replicate]; show i < f + 1 + (g - (f + 1)); omega), List.getElem?_append_right (by rw [List.length_append, List.length_replicate]; show f + 1 ≤ i; omega), List.getElem?_replicate, List.length_append, List.length_replicate]
        show _ = if i - (f + 1) < g - (f + 1) then _ else _
        rw [if_pos (by omega)]
      · rw [List.getElem?_append_right (by rw [List.length_replicate]; omega), List.getElem?_append_right (by rw [List.length_append, List.length_append, List.length_replicate, List.length_replicate]; show f + 1 + (g - (f + 1)) ≤ i; omega), List.length_append, List.length_append, List.length_replicate, List.length_replicate, List.length_replicate]
        show [d][i - g]? = [d][i - (f + 1 + (g - (f + 1)))]?
        rw [show f + 1 + (g - (f + 1)) = g by omega]
theorem grp_ne {a : Mono} {l : List Mono} (h : (a :: l).Pairwise lexD) : grp (a :: l) ≠ [] := by
  obtain ⟨q, pw, e, _⟩ := grp_head h
  rw [e]
  simp
theorem grp_snoc : ∀ {l : List Mono} {x : Mono}, (l ++ [x]).Pairwise lexD → grp (l ++ [x]) = stepL (grp l) x
  | [], x, _ => rfl
  | a :: l, x, h => by
    obtain ⟨h1, h2⟩ := List.pairwise_cons.mp (show (a :: (l ++ [x])).Pairwise lexD from h)
    have ih := grp_snoc (l := l) (x := x) h2
    have hax := h1 x (List.mem_append_right _ List.mem_cons_self)
    have e0 : grp (a :: (l ++ [x])) = (match grp (l ++ [x]) with
        | [] => [(a.1, ext [] a.2.1 a.2.2)]
        | e :: pw => if e.1 = a.1 then (a.1, ext e.2 a.2.1 a.2.2) :: pw else (a.1, ext [] a.2.1 a.2.2) :: e :: pw) := rfl
    have e1 : grp (a :: l) = (match grp l with
        | [] => [(a.1, ext [] a.2.1 a.2.2)]
        | e :: pw => if e.1 = a.1 then (a.1, ext e.2 a.2.1 a.2.2) :: pw else (a.1, ext [] a.2.1 a.2.2) :: e :: pw) := rfl
    show grp (a :: (l ++ [x])) = stepL (grp (a :: l)) x
    rw [e0, ih, e1]
    cases l with
    | nil =>
      show (if x.1 = a.1 then [(a.1, ext (ext [] x.2.1 x.2.2) a.2.1 a.2.2)] else [(a.1, ext [] a.2.1 a.2.2), (x.1, ext [] x.2.1 x.2.2)]) = (if a.1 = x.1 then [(a.1, (ext [] a.2.1 a.2.2).set x.2.1 x.2.2)] else [(a.1, ext [] a.2.1 a.2.2), (x.1, ext [] x.2.1 x.2.2)])
      by_cases c : x.1 = a.1
      · rw [if_pos c, if_pos c.symm, set_ext_nil (by unfold lexD at hax; omega)]
      · rw [if_neg c, if_neg fun z => c z.symm]
    | cons b l =>
      have hbl : (b :: l).Pairwise lexD := (List.pairwise_append.mp h2).1
      obtain ⟨q, pw, eg, lq, hlt⟩ := grp_head hbl
      have hbx : lexD b x := (List.pairwise_append.mp h2).2.2 b List.mem_cons_self x List.mem_cons_self
      rw [eg]
      cases pw with
      | nil =>
        by_cases c : b.1 = x.1
        · have es : stepL [(b.1, q)] x = [(b.1, q.set x.2.1 x.2.2)] := if_pos c
          rw [es]
          have hf : x.2.1 < q.length := by
            unfold lexD at hbx
            omega
          by_cases d : b.1 = a.1
          · show (if b.1 = a.1 then [(a.1, ext (q.set x.2.1 x.2.2) a.2.1 a.2.2)] else _) = stepL (if b.1 = a.1 then [(a.1, ext q a.2.1 a.2.2)] else _) x
            rw [if_pos d, if_pos d]
            show _ = if a.1 = x.1 then [(a.1, (ext q a.2.1 a.2.2).set x.2.1 x.2.2)] else _
            rw [if_pos (d.symm.trans c), set_ext hf]
          · show (if b.1 = a.1 then _ else [(a.1, ext [] a.2.1 a.2.2), (b.1, q.set x.2.1 x.2.2)]) = stepL (if b.1 = a.1 then _ else [(a.1, ext [] a.2.1 a.2.2), (b.1, q)]) x
            rw [if_neg d, if_neg d]
            show _ = (a.1, ext [] a.2.1 a.2.2) :: stepL [(b.1, q)] x
            rw [es]
        · have es : stepL [(b.1, q)] x = [(b.1, q), (x.1, ext [] x.2.1 x.2.2)] := if_neg c
          rw [es]
          by_cases d : b.1 = a.1
          · show (if b.1 = a.1 then [(a.1, ext q a.2.1 a.2.2), (x.1, ext [] x.2.1 x.2.2)] else _) = stepL (if b.1 = a.1 then [(a.1, ext q a.2.1 a.2.2)] else _) x
            rw [if_pos d, if_pos d]
            show _ = if a.1 = x.1 then _ else [(a.1, ext q a.2.1 a.2.2), (x.1, ext [] x.2.1 x.2.2)]
            rw [if_neg fun z => c (d.trans z)]
          · show (if b.1 = a.1 then _ else [(a.1, ext [] a.2.1 a.2.2), (b.1, q), (x.1, ext [] x.2.1 x.2.2)]) = stepL (if b.1 = a.1 then _ else [(a.1, ext [] a.2.1 a.2.2), (b.1, q)]) x
            rw [if_neg d, if_neg d]
            show _ = (a.1, ext [] a.2.1 a.2.2) :: stepL [(b.1, q)] x
            rw [es]
      | cons e2 r =>
        show (if b.1 = a.1 then (a.1, ext q a.2.1 a.2.2) :: stepL (e2 :: r) x else (a.1, ext [] a.2.1 a.2.2) :: (b.1, q) :: stepL (e2 :: r) x) = stepL (if b.1 = a.1 then (a.1, ext q a.2.1 a.2.2) :: e2 :: r else (a.1, ext [] a.2.1 a.2.2) :: (b.1, q) :: e2 :: r) x
        by_cases d : b.1 = a.1
        · rw [if_pos d, if_pos d]
          rfl
        · rw [if_neg d, if_neg d]
          rfl
/-! ### what grouped terms come to -/
def monoEv : List Mono → Int → Int → Int
  | [], _, _ => 0
  | a :: r, L, n => a.2.2 * L ^ a.2.1 * n ^ a.1 + monoEv r L n
theorem ev_ext (L : Int) {q : List Int} {f : Nat} (c : Int) (h : q.length ≤ f) : ev (ext q f c) L = ev q L + c * L ^ f := by
  have app : ∀ (p r : List Int), ev (p ++ r) L = ev p L + L ^ p.length * ev r L := fun p r => by
    induction p with
    | nil =>
      show ev r L = 0 + L ^ 0 * ev r L
      rw [Int.pow_zero]
      omega
    | cons a t ih =>
      show a + L * ev (t ++ r) L = a + L * ev t L + L ^ (t.length + 1) * ev r L
      rw [ih, Int.pow_succ]
      grind
  unfold ext
  rw [app, app, List.length_append, List.length_replicate, ev_noughts, show q.length + (f - q.length) = f by omega]
  have : ev [c] L = c := ev_one c L
  rw [this]
  grind
theorem grp_ev (L n : Int) : ∀ {l : List Mono}, l.Pairwise lexD → pwEv (grp l) L n = monoEv l L n
  | [], _ => rfl
  | a :: l, h => by
    obtain ⟨h1, h2⟩ := List.pairwise_cons.mp h
    have ih := grp_ev L n h2
    have e1 : grp (a :: l) = (match grp l with
        | [] => [(a.1, ext [] a.2.1 a.2.2)]
        | e :: pw => if e.1 = a.1 then (a.1, ext e.2 a.2.1 a.2.2) :: pw else (a.1, ext [] a.2.1 a.2.2) :: e :: pw) := rfl
    have x0 : ev (ext [] a.2.1 a.2.2) L = a.2.2 * L ^ a.2.1 := by
      rw [ev_ext L _ (Nat.zero_le _)]
      show 0 + _ = _
      omega
    show _ = a.2.2 * L ^ a.2.1 * n ^ a.1 + monoEv l L n
    rw [e1, ← ih]
    cases l with
    | nil =>
      show ev (ext [] a.2.1 a.2.2) L * n ^ a.1 + 0 = _ + 0
      rw [x0]
    | cons b l =>
      obtain ⟨q, pw, eg, lq, _⟩ := grp_head h2
      have hab := h1 b List.mem_cons_self
      rw [eg]
      by_cases d : b.1 = a.1
      · show pwEv (if b.1 = a.1 then (a.1, ext q a.2.1 a.2.2) :: pw else _) L n = _ + (ev q L * n ^ b.1 + pwEv pw L n)
        rw [if_pos d]
        show ev (ext q a.2.1 a.2.2) L * n ^ a.1 + pwEv pw L n = _
        rw [ev_ext L _ (by unfold lexD at hab; omega), d]
        grind
      · show pwEv (if b.1 = a.1 then _ else (a.1, ext [] a.2.1 a.2.2) :: (b.1, q) :: pw) L n = _
        rw [if_neg d]
        show ev (ext [] a.2.1 a.2.2) L * n ^ a.1 + (ev q L * n ^ b.1 + pwEv pw L n) = _
        rw [x0]
        rfl
theorem trim_ext {q : List Int} {f : Nat} {c : Int} (hc : c ≠ 0) : trim (ext q f c) = ext q f c := by
  have tl : ∀ p : List Int, trim (p ++ [c]) = p ++ [c] := fun p => by
    induction p with
    | nil =>
      show (if c = 0 then [] else [c]) = [c]
      exact if_neg hc
    | cons a r ih =>
      show (match trim (r ++ [c]) with | [] => if a = 0 then [] else [a] | b :: t => a :: b :: t) = _
      rw [ih]
      cases r with
      | nil => rfl
      | cons x t => rfl
  exact tl _
/-- all that holds of grouped terms -/
theorem grp_all {A : Nat} : ∀ {l : List Mono}, l.Pairwise lexD → (∀ a ∈ l, a.1 ≤ 9 ∧ a.2.1 ≤ 9 ∧ a.2.2 ≠ 0 ∧ a.2.2.natAbs ≤ A) →
    (grp l).Pairwise (fun a b => b.1 < a.1) ∧ (grp l).length ≤ l.length ∧ (∀ p ∈ grp l, (∃ a ∈ l, a.1 = p.1) ∧ p.2 ≠ [] ∧ p.2.length ≤ 10 ∧ trim p.2 = p.2 ∧ ∀ c ∈ p.2, c.natAbs ≤ A)
  | [], _, _ => ⟨.nil, Nat.le_refl _, fun _ h => nomatch h⟩
  | a :: l, h, hb => by
    obtain ⟨h1, h2⟩ := List.pairwise_cons.mp h
    obtain ⟨i1, i2, i3⟩ := grp_all h2 fun x hx => hb x (List.mem_cons_of_mem _ hx)
    obtain ⟨a9, f9, c0, cA⟩ := hb a List.mem_cons_self
    have one : (∃ x ∈ a :: l, x.1 = a.1) ∧ ext [] a.2.1 a.2.2 ≠ [] ∧ (ext [] a.2.1 a.2.2).length ≤ 10 ∧ trim (ext [] a.2.1 a.2.2) = ext [] a.2.1 a.2.2 ∧ ∀ c ∈ ext [] a.2.1 a.2.2, c.natAbs ≤ A := by
      have el := ext_len (q := []) (f := a.2.1) a.2.2 (Nat.zero_le _)
      refine ⟨⟨a, List.mem_cons_self, rfl⟩, (fun z => by rw [z] at el; cases el), by omega, trim_ext c0, fun c hc => ?_⟩
      unfold ext at hc
      rcases List.mem_append.mp hc with hc | hc
      · rw [List.nil_append] at hc
        rw [List.eq_of_mem_replicate hc]
        exact Nat.zero_le _
      · rw [List.mem_singleton.mp hc]
        exact cA
    cases l with
    | nil =>
      show List.Pairwise _ [(a.1, ext [] a.2.1 a.2.2)] ∧ _
      refine ⟨by simp, Nat.le_refl _, fun p hp => ?_⟩
      rw [List.mem_singleton.mp (show p ∈ [(a.1, ext [] a.2.1 a.2.2)] from hp)]
      exact one
    | cons b l =>
      obtain ⟨q, pw, eg, lq, hlt⟩ := grp_head h2
      have hab := h1 b List.mem_cons_self
      have e1 : grp (a :: b :: l) = if b.1 = a.1 then (a.1, ext q a.2.1 a.2.2) :: pw else (a.1, ext [] a.2.1 a.2.2) :: (b.1, q) :: pw := by
        show (match grp (b :: l) with
          | [] => [(a.1, ext [] a.2.1 a.2.2)]
          | e :: pw => if e.1 = a.1 then (a.1, ext e.2 a.2.1 a.2.2) :: pw else (a.1, ext [] a.2.1 a.2.2) :: e :: pw) = _
        rw [eg]
      rw [eg] at i1 i2 i3
      obtain ⟨j1, j2⟩ := List.pairwise_cons.mp i1
      have old : ∀ p ∈ (b.1, q) :: pw, (∃ x ∈ a :: b :: l, x.1 = p.1) ∧ p.2 ≠ [] ∧ p.2.length ≤ 10 ∧ trim p.2 = p.2 ∧ ∀ c ∈ p.2, c.natAbs ≤ A := fun p hp => by
        obtain ⟨⟨x, hx, ex⟩, rest⟩ := i3 p hp
        exact ⟨⟨x, List.mem_cons_of_mem _ hx, ex⟩, rest⟩
      rw [e1]
      by_cases d : b.1 = a.1
      · rw [if_pos d]
        have el := ext_len (q := q) (f := a.2.1) a.2.2 (by unfold lexD at hab; omega)
        refine ⟨List.pairwise_cons.mpr ⟨fun x hx => by rw [← d]; exact hlt x hx, j2⟩, Nat.le_trans i2 (Nat.le_succ _), fun p hp => ?_⟩
        rcases List.mem_cons.mp hp with rfl | hp
        · refine ⟨⟨a, List.mem_cons_self, rfl⟩, fun z => ?_, by show (ext q a.2.1 a.2.2).length ≤ 10; omega, trim_ext c0, fun c hc => ?_⟩
          · have z' : ext q a.2.1 a.2.2 = [] := z
            rw [z'] at el
            cases el
          · have hc' : c ∈ ext q a.2.1 a.2.2 := hc
            unfold ext at hc'
            rcases List.mem_append.mp hc' with hc | hc
            · rcases List.mem_append.mp hc with hc | hc
              · exact (old (b.1, q) List.mem_cons_self).2.2.2.2 c hc
              · rw [List.eq_of_mem_replicate hc]
                exact Nat.zero_le _
            · rw [List.mem_singleton.mp hc]
              exact cA
        · exact old p (List.mem_cons_of_mem _ hp)
      · rw [if_neg d]
        refine ⟨List.pairwise_cons.mpr ⟨fun x hx => ?_, i1⟩, Nat.succ_le_succ i2, fun p hp => ?_⟩
        · have : b.1 < a.1 := by unfold lexD at hab; omega
          rcases List.mem_cons.mp hx with rfl | hx
          · exact this
          · have := hlt x hx
            show x.1 < a.1
            omega
        · rcases List.mem_cons.mp hp with rfl | hp
          · exact one
          · exact old p hp
end OG
namespace OG
open PySem PySem.Spec PyProof.Rows L2
theorem stepL_last : ∀ {pw0 : Pw} {e : Nat × List Int} {x : Mono}, stepL (pw0 ++ [e]) x = if e.1 = x.1 then pw0 ++ [(e.1, e.2.set x.2.1 x.2.2)] else pw0 ++ [e] ++ [(x.1, ext [] x.2.1 x.2.2)]
  | [], e, x => rfl
  | [a], e, x => by
    show a :: stepL [e] x = _
    have : stepL [e] x = if e.1 = x.1 then [(e.1, e.2.set x.2.1 x.2.2)] else [e, (x.1, ext [] x.2.1 x.2.2)] := rfl
    rw [this]
    split <;> rfl
  | a :: b :: r, e, x => by
    have ih := stepL_last (pw0 := b :: r) (e := e) (x := x)
    show a :: stepL (b :: r ++ [e]) x = _
    rw [ih]
    split <;> rfl
/-- the dict of polynomials: which power, where, what -/
inductive GF (H : Hp) : List (L2.Key × V) → Pw → List Addr → Prop where
  | nil : GF H [] [] []
  | snoc {kvs : List (L2.Key × V)} {pw : Pw} {as : List Addr} {p : Nat} {q : List Int} {b : Addr} (h : GF H kvs pw as) (l : LAt H b q) (n : b ∉ as) : GF H (kvs ++ [(.inl (p : Int), .ref b)]) (pw ++ [(p, q)]) (as ++ [b])
theorem GF.len {H : Hp} {kvs : List (L2.Key × V)} {pw : Pw} {as : List Addr} (h : GF H kvs pw as) : kvs.length = pw.length ∧ as.length = pw.length := by
  induction h with
  | nil => exact ⟨rfl, rfl⟩
  | snoc h l n ih => exact ⟨by rw [List.length_append, List.length_append, ih.1]; rfl, by rw [List.length_append, List.length_append, ih.2]; rfl⟩
theorem GF.to {H H' : Hp} (i : ∀ b xs, H b = some (.lst xs) → H' b = some (.lst xs)) {kvs : List (L2.Key × V)} {pw : Pw} {as : List Addr} (h : GF H kvs pw as) : GF H' kvs pw as := by
  induction h with
  | nil => exact .nil
  | snoc h l n ih => exact .snoc ih (i _ _ l) n
/-- all but the lists at as may change -/
theorem GF.off {H H' : Hp} {kvs : List (L2.Key × V)} {pw : Pw} {as : List Addr} (h : GF H kvs pw as) (i : ∀ b xs, b ∈ as → H b = some (.lst xs) → H' b = some (.lst xs)) : GF H' kvs pw as := by
  induction h with
  | nil => exact .nil
  | snoc h l n ih => exact .snoc (ih fun b xs hb => i b xs (List.mem_append_left _ hb)) (i _ _ (List.mem_append_right _ List.mem_cons_self) l) n
theorem GF.there {H : Hp} {kvs : List (L2.Key × V)} {pw : Pw} {as : List Addr} (h : GF H kvs pw as) : ∀ b ∈ as, ∃ xs, H b = some (.lst xs) := by
  induction h with
  | nil => exact fun _ h => nomatch h
  | snoc h l n ih =>
    intro b hb
    rcases List.mem_append.mp hb with z | z
    · exact ih b z
    · rw [List.mem_singleton.mp z]
      exact ⟨_, l⟩
theorem GF.last {H : Hp} {kvs : List (L2.Key × V)} {pw pw0 : Pw} {e : Nat × List Int} {as : List Addr} (h : GF H kvs pw as) (ep : pw = pw0 ++ [e]) : ∃ kvs0 as0 b, kvs = kvs0 ++ [(.inl (e.1 : Int), .ref b)] ∧ as = as0 ++ [b] ∧ GF H kvs0 pw0 as0 ∧ LAt H b e.2 ∧ b ∉ as0 := by
  cases h with
  | nil => simp at ep
  | @snoc kvs1 pw1 as1 p q b h l n =>
    obtain ⟨e1, e2⟩ := List.append_inj' ep rfl
    have e3 := (List.cons.inj e2).1
    subst e1
    subst e3
    exact ⟨kvs1, as1, b, rfl, rfl, h, l, n⟩
theorem GF.fresh {H : Hp} {kvs : List (L2.Key × V)} {pw : Pw} {as : List Addr} (h : GF H kvs pw as) {k : Nat} (hk : ∀ e ∈ pw, e.1 ≠ k) : valV kvs (.inl (k : Int)) = none := by
  induction h with
  | nil => rfl
  | @snoc kvs pw as p q b h l n ih =>
    have ihn := ih fun e he => hk e (List.mem_append_left _ he)
    have ne := hk (p, q) (List.mem_append_right _ List.mem_cons_self)
    have app : ∀ (xs : List (L2.Key × V)) (y : L2.Key × V), valV xs (.inl (k : Int)) = none → y.1 ≠ .inl (k : Int) → valV (xs ++ [y]) (.inl (k : Int)) = none := fun xs y h1 h2 => by
      induction xs with
      | nil => exact valV_neg h2
      | cons z r ih =>
        have hz : ¬ z.1 = .inl (k : Int) := fun w => by rw [valV_pos w] at h1; cases h1
        rw [valV_neg hz] at h1
        rw [List.cons_append, valV_neg hz]
        exact ih h1
    refine app _ _ ihn fun z => ne ?_
    have : ((p : Nat) : Int) = k := Sum.inl.inj z
    show p = k
    omega
theorem GF.get {H : Hp} {kvs : List (L2.Key × V)} {pw : Pw} {as : List Addr} (h : GF H kvs pw as) : ∀ {i : Nat} {kv : L2.Key × V}, kvs[i]? = some kv → ∃ e b, pw[i]? = some e ∧ kv = (.inl (e.1 : Int), .ref b) ∧ LAt H b e.2 := by
  induction h with
  | nil => intro i kv h; simp at h
  | @snoc kvs pw as p q b h l n ih =>
    intro i kv hk
    have ln := h.len.1
    by_cases c : i < kvs.length
    · rw [List.getElem?_append_left c] at hk
      obtain ⟨e, b', h1, h2, h3⟩ := ih hk
      exact ⟨e, b', by rw [List.getElem?_append_left (by omega)]; exact h1, h2, h3⟩
    · have hl := (List.getElem?_eq_some_iff.mp hk).1
      rw [List.length_append] at hl
      have hl' : i < kvs.length + 1 := hl
      obtain rfl : i = kvs.length := by omega
      rw [List.getElem?_concat_length] at hk
      cases hk
      exact ⟨(p, q), b, by rw [ln, List.getElem?_concat_length], rfl, l⟩
theorem GF.val {H : Hp} {kvs : List (L2.Key × V)} {pw : Pw} {as : List Addr} (h : GF H kvs pw as) (hd : pw.Pairwise fun a b => b.1 < a.1) : ∀ {i : Nat} {kv : L2.Key × V}, kvs[i]? = some kv → valV kvs kv.1 = some kv.2 := by
  induction h with
  | nil => intro i kv h; simp at h
  | @snoc kvs pw as p q b h l n ih =>
    intro i kv hk
    obtain ⟨d1, d2, d3⟩ := List.pairwise_append.mp hd
    have fr := h.fresh (k := p) fun e he z => by
      have := d3 e he (p, q) List.mem_cons_self
      have z' : p < e.1 := this
      omega
    have vs := fun j => valV_snoc (.inl (p : Int)) j (V.ref b) kvs fr
    by_cases c : i < kvs.length
    · rw [List.getElem?_append_left c] at hk
      obtain ⟨e, b', h1, h2, _⟩ := h.get hk
      rw [vs]
      have : kv.1 ≠ .inl (p : Int) := fun z => by
        rw [h2] at z
        have z2 : ((e.1 : Nat) : Int) = p := Sum.inl.inj z
        have z3 : p < e.1 := d3 e (List.mem_of_getElem? h1) (p, q) List.mem_cons_self
        omega
      rw [if_neg this]
      exact ih d1 hk
    · have hl := (List.getElem?_eq_some_iff.mp hk).1
      rw [List.length_append] at hl
      have hl' : i < kvs.length + 1 := hl
      obtain rfl : i = kvs.length := by omega
      rw [List.getElem?_concat_length] at hk
      cases hk
      rw [vs]
      exact if_pos rfl
def monoOf (m : Int) (t : Term) : Mono := (t.1.1.toNat, t.1.2.toNat, t.2.1 * (m / t.2.2))
theorem tsOf_fallsF {ds : List Term} {ks : List (Int × Int)} {m : Int} (nd : ks.Nodup) (z : ∀ k ∈ ks, 0 ≤ k.1 ∧ 0 ≤ k.2) (s : ks.Pairwise fun a b => SrtO.lexB b a = false) : ((tsOf ds ks.reverse).map (monoOf m)).Pairwise lexD := by
  unfold tsOf
  rw [List.map_map]
  refine List.pairwise_map.mpr (List.pairwise_reverse.mpr ?_)
  refine (List.Pairwise.imp₂ (R := fun a b => SrtO.lexB b a = false) (S := fun a b => a ≠ b) (T := fun a b => a.1 < b.1 ∨ (a.1 = b.1 ∧ a.2 < b.2)) (fun a b x y => ?_) s nd).imp_of_mem fun {a b} ha hb h => ?_
  · have n := SrtO.lexB_no.mp x
    have ne : ¬ (a.1 = b.1 ∧ a.2 = b.2) := fun z => y (Prod.ext z.1 z.2)
    omega
  · have h1 := z _ ha
    have h2 := z _ hb
    show a.1.toNat < b.1.toNat ∨ (a.1.toNat = b.1.toNat ∧ a.2.toNat < b.2.toNat)
    omega
theorem mono_VF {m L n : Int} (hm : m = 1 ∨ m = 2) : ∀ {ts : List Term}, (∀ t ∈ ts, LowU t ∧ t.2.2 ∣ m) → 2 * monoEv (ts.map (monoOf m)) L n = m * VF ts n L
  | [], _ => by
    show 2 * (0 : Int) = m * 0
    omega
  | t :: r, h => by
    obtain ⟨hl, hd⟩ := h t List.mem_cons_self
    have ih := mono_VF (L := L) (n := n) hm (ts := r) fun x hx => h x (List.mem_cons_of_mem _ hx)
    have e3 := v2_whole hl hm hd
    show 2 * (t.2.1 * (m / t.2.2) * L ^ t.1.2.toNat * n ^ t.1.1.toNat + monoEv (r.map (monoOf m)) L n) = m * (v2 t.2 * n ^ t.1.1.toNat * L ^ t.1.2.toNat + VF r n L)
    grind
def spWholePF : Sp := fun vs H Q _ => ∃ (F : Addr) (ds : List Term), vs = [.ref F] ∧ DAt H F ds ∧ DOF ds ∧ (∀ t ∈ ds, v2 t.2 ≠ 0) ∧ ds.length ≤ 200 ∧
  ∀ (S : Addr) (m : Int) (ts : List Term) (H' : Hp), Same H H' → H S = none → PwAt H' S (grp (ts.map (monoOf m))) → (m = 1 ∨ m = 2) → (∀ t ∈ ds, t.2.2 ∣ m) → ts.Perm ds → (ts.map (monoOf m)).Pairwise lexD → Q (.ref S) H'
end OG
namespace OG
theorem grp_cons (a : Mono) (r : List Mono) : grp (a :: r) = (match grp r with
    | [] => [(a.1, ext [] a.2.1 a.2.2)]
    | e :: pw => if e.1 = a.1 then (a.1, ext e.2 a.2.1 a.2.2) :: pw else (a.1, ext [] a.2.1 a.2.2) :: e :: pw) := rfl
theorem grp_len : ∀ l : List Mono, (grp l).length ≤ l.length
  | [] => Nat.le_refl _
  | a :: r => by
    have ih := grp_len r
    rw [grp_cons]
    cases h : grp r with
    | nil => exact Nat.succ_le_succ (Nat.zero_le _)
    | cons e pw =>
      rw [h] at ih
      show (if e.1 = a.1 then (a.1, ext e.2 a.2.1 a.2.2) :: pw else (a.1, ext [] a.2.1 a.2.2) :: e :: pw).length ≤ r.length + 1
      have ih' : pw.length + 1 ≤ r.length := ih
      split
      · show pw.length + 1 ≤ r.length + 1
        omega
      · show pw.length + 1 + 1 ≤ r.length + 1
        omega
theorem grp_cov : ∀ l : List Mono, ∀ e ∈ grp l, ∃ a ∈ l, a.1 = e.1
  | [] => fun _ h => nomatch h
  | a :: r => fun e he => by
    have ih := grp_cov r
    rw [grp_cons] at he
    cases h : grp r with
    | nil =>
      rw [h] at he
      rw [List.mem_singleton.mp (show e ∈ [(a.1, ext [] a.2.1 a.2.2)] from he)]
      exact ⟨a, List.mem_cons_self, rfl⟩
    | cons f pw =>
      rw [h] at he ih
      have he' : e ∈ (if f.1 = a.1 then (a.1, ext f.2 a.2.1 a.2.2) :: pw else (a.1, ext [] a.2.1 a.2.2) :: f :: pw) := he
      split at he'
      · rcases List.mem_cons.mp he' with rfl | w
        · exact ⟨a, List.mem_cons_self, rfl⟩
        · obtain ⟨b, hb, eb⟩ := ih e (List.mem_cons_of_mem _ w)
          exact ⟨b, List.mem_cons_of_mem _ hb, eb⟩
      · rcases List.mem_cons.mp he' with rfl | w
        · exact ⟨a, List.mem_cons_self, rfl⟩
        · obtain ⟨b, hb, eb⟩ := ih e w
          exact ⟨b, List.mem_cons_of_mem _ hb, eb⟩
theorem grp_falls : ∀ {l : List Mono}, l.Pairwise lexD → (grp l).Pairwise fun a b => b.1 < a.1
  | [], _ => .nil
  | [a], _ => by
    show List.Pairwise _ [(a.1, ext [] a.2.1 a.2.2)]
    simp
  | a :: b :: l, h => by
    obtain ⟨h1, h2⟩ := List.pairwise_cons.mp h
    have i1 := grp_falls h2
    obtain ⟨q, pw, eg, lq, hlt⟩ := grp_head h2
    have hab := h1 b List.mem_cons_self
    rw [grp_cons]
    rw [eg] at i1 ⊢
    obtain ⟨j1, j2⟩ := List.pairwise_cons.mp i1
    by_cases d : b.1 = a.1
    · show List.Pairwise _ (if b.1 = a.1 then (a.1, ext q a.2.1 a.2.2) :: pw else _)
      rw [if_pos d]
      exact List.pairwise_cons.mpr ⟨fun x hx => by rw [← d]; exact hlt x hx, j2⟩
    · show List.Pairwise _ (if b.1 = a.1 then _ else (a.1, ext [] a.2.1 a.2.2) :: (b.1, q) :: pw)
      rw [if_neg d]
      refine List.pairwise_cons.mpr ⟨fun x hx => ?_, i1⟩
      have : b.1 < a.1 := by unfold lexD at hab; omega
      rcases List.mem_cons.mp hx with rfl | hx
      · exact this
      · have := hlt x hx
        show x.1 < a.1
        omega
/-- the last entry's polynomial is longer than the next term of its power has figures -/
theorem grp_last_len : ∀ (l : List Mono) (x : Mono), (l ++ [x]).Pairwise lexD → ∀ pw0 q, grp l = pw0 ++ [(x.1, q)] → x.2.1 < q.length
  | [], x => fun _ pw0 q e => by
    have : ([] : Pw) = pw0 ++ [(x.1, q)] := e
    simp at this
  | [a], x => fun hx pw0 q e => by
    obtain ⟨h1, h2⟩ := List.pairwise_cons.mp (show (a :: ([] ++ [x])).Pairwise lexD from hx)
    have hax := h1 x (List.mem_append_right _ List.mem_cons_self)
    have e' : [] ++ [(a.1, ext [] a.2.1 a.2.2)] = pw0 ++ [(x.1, q)] := e
    have e2 := List.append_inj' e' rfl
    have e3 := Prod.mk.inj (List.cons.inj e2.2).1
    rw [← e3.2, ext_len _ (Nat.zero_le _)]
    unfold lexD at hax
    omega
  | a :: b :: l, x => fun hx pw0 q e => by
    obtain ⟨h1, h2⟩ := List.pairwise_cons.mp (show (a :: ((b :: l) ++ [x])).Pairwise lexD from hx)
    have hax := h1 x (List.mem_append_right _ List.mem_cons_self)
    have hal : (a :: b :: l).Pairwise lexD := (List.pairwise_append.mp hx).1
    obtain ⟨q', pw, eg', lq', hlt⟩ := grp_head (List.pairwise_cons.mp hal).2
    have hab := (List.pairwise_cons.mp hal).1 b List.mem_cons_self
    rw [grp_cons, eg'] at e
    have e : (if b.1 = a.1 then (a.1, ext q' a.2.1 a.2.2) :: pw else (a.1, ext [] a.2.1 a.2.2) :: (b.1, q') :: pw) = pw0 ++ [(x.1, q)] := e
    by_cases dd : b.1 = a.1
    · rw [if_pos dd] at e
      cases pw0 with
      | nil =>
        have e3 := Prod.mk.inj (List.cons.inj e).1
        rw [← e3.2, ext_len _ (by unfold lexD at hab; omega)]
        unfold lexD at hax
        omega
      | cons y r =>
        have e4 : pw = r ++ [(x.1, q)] := (List.cons.inj e).2
        exact grp_last_len (b :: l) x h2 ((b.1, q') :: r) q (by rw [eg', e4]; rfl)
    · rw [if_neg dd] at e
      cases pw0 with
      | nil =>
        have e4 : (b.1, q') :: pw = [] := (List.cons.inj e).2
        cases e4
      | cons y r =>
        have e4 : (b.1, q') :: pw = r ++ [(x.1, q)] := (List.cons.inj e).2
        exact grp_last_len (b :: l) x h2 r q (by rw [eg', e4])
/-- a term's power is the last one, or a new one -/
theorem grp_next {l : List Mono} {x : Mono} (h : (l ++ [x]).Pairwise lexD) : (∃ pw0 q, grp l = pw0 ++ [(x.1, q)]) ∨ ((∀ e ∈ grp l, e.1 ≠ x.1) ∧ stepL (grp l) x = grp l ++ [(x.1, ext [] x.2.1 x.2.2)]) := by
  have hd := grp_falls (List.pairwise_append.mp h).1
  have ge : ∀ e1 ∈ grp l, x.1 ≤ e1.1 := fun e1 he => by
    obtain ⟨a, ha, ea⟩ := grp_cov l e1 he
    have : lexD a x := (List.pairwise_append.mp h).2.2 a ha _ List.mem_cons_self
    unfold lexD at this
    omega
  rcases List.eq_nil_or_concat (grp l) with e | ⟨pw0, e0, e⟩
  · rw [e]
    exact .inr ⟨(fun _ h => nomatch h), rfl⟩
  · rw [List.concat_eq_append] at e
    rw [e] at hd ge ⊢
    by_cases y : e0.1 = x.1
    · exact .inl ⟨pw0, e0.2, by rw [← y]⟩
    · refine .inr ⟨fun e1 he1 z => ?_, by rw [stepL_last, if_neg y]⟩
      rcases List.mem_append.mp he1 with w | w
      · have d2 := (List.pairwise_append.mp hd).2.2 e1 w e0 List.mem_cons_self
        have d3 := ge e0 (List.mem_append_right _ List.mem_cons_self)
        omega
      · rw [List.mem_singleton.mp w] at z
        exact y z
end OG

set_option Elab.async false
set_option linter.all false
set_option maxRecDepth 100000
set_option maxHeartbeats 4000000
namespace OG
open PySem PySem.Spec PyProof.Rows L2
/-! ### the stretches of two sums, with figures -/
structure RowsF (A S : Nat) (rs : List Row) : Prop where
  ok : ROk rs
  kt : ∀ r ∈ rs, KTF A r.2
  small : ∀ r ∈ rs, 0 ≤ r.1 ∧ r.1 < 2 ^ S
theorem ktf_nil (A : Nat) : KTF A [] := ⟨⟨(fun _ h => nomatch h), List.Pairwise.nil, (fun _ h => nomatch h), fun _ h => nomatch h⟩, Nat.zero_le _, fun _ h => nomatch h⟩
theorem RowsF.ts {A S : Nat} {rs : List Row} (h : RowsF A S rs) (n : Int) : KTF A (rowTs rs n) := by
  unfold rowTs
  cases e : rs[rowIx rs n - 1]? with
  | none => exact ktf_nil A
  | some r => exact h.kt r (List.mem_of_getElem? e)
def StOfF (rs1 rs2 : List Row) (k : Int) (pw : Pw) : Prop := ∃ (m : Int) (ts : List Term), pw = grp (ts.map (monoOf m)) ∧ (m = 1 ∨ m = 2) ∧ (∀ t ∈ lessT (rowTs rs1 k) (rowTs rs2 k), t.2.2 ∣ m) ∧ ts.Perm (lessT (rowTs rs1 k) (rowTs rs2 k)) ∧ (ts.map (monoOf m)).Pairwise lexD
structure StsRel (rs1 rs2 : List Row) (sts : List Stretch) : Prop where
  ks : (sts.map (·.1)).Pairwise (· < ·)
  mem : ∀ k : Int, k ∈ sts.map (·.1) ↔ k ∈ rs1.map (·.1) ++ rs2.map (·.1)
  few : sts.length ≤ 16
  of : ∀ st ∈ sts, StOfF rs1 rs2 st.1 st.2
def spStretchesF : Sp := fun vs H Q _ => ∃ (S1 : Addr) (rs1 : List Row) (ls1 : List Addr) (S2 : Addr) (rs2 : List Row) (ls2 : List Addr) (A N : Nat), vs = [.ref S1, .ref S2] ∧ SumsAt H S1 rs1 ls1 ∧ SumsAt H S2 rs2 ls2 ∧ RowsF A N rs1 ∧ RowsF A N rs2 ∧
  ∀ (S : Addr) (sts : List Stretch) (H' : Hp), Same H H' → StsAt H' S sts → StsRel rs1 rs2 sts → Q (.ref S) H'
/-- what one stretch is -/
theorem stOfF_facts {A S : Nat} {rs1 rs2 : List Row} (h1 : RowsF A S rs1) (h2 : RowsF A S rs2) {k : Int} {pw : Pw} (h : StOfF rs1 rs2 k pw) :
    PwF 10 pw ∧ pw.length ≤ 16 ∧ (∀ p ∈ pw, p.2 ≠ [] ∧ p.2.length ≤ 10 ∧ trim p.2 = p.2 ∧ ∀ c ∈ p.2, c.natAbs ≤ 18 * A) ∧ ∃ m : Int, 0 < m ∧ ∀ L n, 2 * pwEv pw L n = m * (VF (rowTs rs1 k) n L - VF (rowTs rs2 k) n L) := by
  obtain ⟨m, ts, rfl, hm, hd, hp, hf⟩ := h
  obtain ⟨ok, nz, val, sm, len⟩ := lessF_facts (h1.ts k) (h2.ts k)
  have hall := grp_all (A := 18 * A) hf fun x hx => by
    obtain ⟨t, ht, rfl⟩ := List.mem_map.mp hx
    have htd := hp.mem_iff.mp ht
    have hk := ok.keys t htd
    have lo : t.2.2 = 1 ∨ t.2.2 = 2 := ok.low t htd
    have mo : m / t.2.2 = 0 ∨ m / t.2.2 = 1 ∨ m / t.2.2 = 2 := by
      rcases hm with e | e <;> rcases lo with f | f <;> rw [e, f] <;> decide
    refine ⟨by show t.1.1.toNat ≤ 9; omega, by show t.1.2.toNat ≤ 9; omega, fun z => ?_, ?_⟩
    · have e := v2_whole lo hm (hd t htd)
      have z1 : t.2.1 * (m / t.2.2) = 0 := z
      rw [z1] at e
      have : m * v2 t.2 ≠ 0 := Int.mul_ne_zero (by omega) (nz t htd)
      exact this (by rw [e]; rfl)
    · have s2 := (sm t htd).2
      show (t.2.1 * (m / t.2.2)).natAbs ≤ 18 * A
      rcases mo with q | q | q <;> rw [q] <;> omega
  obtain ⟨g1, g2, g3⟩ := hall
  refine ⟨⟨g1, fun p hp' => ?_⟩, ?_, fun p hp' => (g3 p hp').2, m, by omega, fun L n => ?_⟩
  · obtain ⟨a, ha, ea⟩ := (g3 p hp').1
    obtain ⟨t, ht, rfl⟩ := List.mem_map.mp ha
    have hk := ok.keys t (hp.mem_iff.mp ht)
    have ea' : t.1.1.toNat = p.1 := ea
    omega
  · rw [List.length_map, hp.length_eq] at g2
    omega
  · rw [grp_ev L n hf, mono_VF hm fun t ht => ⟨ok.low t (hp.mem_iff.mp ht), hd t (hp.mem_iff.mp ht)⟩, VF_perm hp, val]
theorem StsRel.facts {A S : Nat} {rs1 rs2 : List Row} (h1 : RowsF A S rs1) (h2 : RowsF A S rs2) {sts : List Stretch} (h : StsRel rs1 rs2 sts) :
    StsO sts ∧ (∀ st ∈ sts, 0 ≤ st.1 ∧ st.1 < 2 ^ S) ∧ ∀ n, 0 ≤ n → sgX (dif2 rs1 rs2 n) = sgX (dfc sts n) := by
  have hb : ∀ st ∈ sts, 0 ≤ st.1 ∧ st.1 < 2 ^ S := fun st hst => by
    rcases List.mem_append.mp ((h.mem st.1).mp (List.mem_map.mpr ⟨st, hst, rfl⟩)) with z | z
    · obtain ⟨r, hr, e⟩ := List.mem_map.mp z
      rw [← e]
      exact h1.small r hr
    · obtain ⟨r, hr, e⟩ := List.mem_map.mp z
      rw [← e]
      exact h2.small r hr
  have z0 : (0 : Int) ∈ sts.map (·.1) := by
    refine (h.mem 0).mpr (List.mem_append_left _ ?_)
    have f := h1.ok.first
    cases rs1 with
    | nil => cases f
    | cons r rest =>
      have e : r.1 = 0 := Option.some.inj f
      rw [← e]
      exact List.mem_cons_self
  have first : (sts.head?.map (·.1)) = some 0 := by
    rw [← List.head?_map]
    have hks := h.ks
    have hb' : ∀ k ∈ sts.map (·.1), 0 ≤ k := fun k hk => by
      obtain ⟨st, hst, rfl⟩ := List.mem_map.mp hk
      exact (hb st hst).1
    generalize sts.map (·.1) = ks at z0 hks hb'
    cases ks with
    | nil => cases z0
    | cons a r =>
      have p := (List.pairwise_cons.mp hks).1
      have a0 := hb' a List.mem_cons_self
      rcases List.mem_cons.mp z0 with e | e
      · rw [← e]
        rfl
      · have := p 0 e
        omega
  refine ⟨⟨first, h.ks, h.few⟩, hb, fun n hn => ?_⟩
  obtain ⟨i, k, hi, hkn, hnx, hle⟩ := last_low h.ks ⟨0, z0, hn⟩
  rw [List.getElem?_map] at hi
  obtain ⟨st, hst, rfl⟩ := Option.map_eq_some_iff.mp hi
  have hpw : stPw sts n = st.2 := stPw_at h.ks hst hkn fun st' hst' => hnx st'.1 (by rw [List.getElem?_map, hst']; rfl)
  obtain ⟨_, _, _, m, m0, hv⟩ := stOfF_facts h1 h2 (h.of st (List.mem_of_getElem? hst))
  have e1 : rowTs rs1 n = rowTs rs1 st.1 := rowTs_stay hkn fun r hr hrn => hle r.1 ((h.mem _).mpr (List.mem_append_left _ (List.mem_map.mpr ⟨r, hr, rfl⟩))) hrn
  have e2 : rowTs rs2 n = rowTs rs2 st.1 := rowTs_stay hkn fun r hr hrn => hle r.1 ((h.mem _).mpr (List.mem_append_right _ (List.mem_map.mpr ⟨r, hr, rfl⟩))) hrn
  rw [dif2_signF (h1.ts n).ok.low (h2.ts n).ok.low, e1, e2]
  unfold dfc
  rw [hpw]
  have := hv (figs n) n
  rw [← sgX_mul (k := m) m0, ← this, sgX_mul (by decide)]
/-! ### the last stretch -/
def lastC (p : List Int) : Int := p.getLast?.getD 0
theorem lastC_snoc (q : List Int) (c : Int) : lastC (q ++ [c]) = c := by
  unfold lastC
  simp
/-- where the last stretch may be gone through -/
def Tame (sts : List Stretch) : Prop := ∀ ini sl, sts = ini ++ [sl] → (sl.2 = [] → sl.1 < 2 ^ 59) ∧ ∀ p0 r, sl.2 = p0 :: r → ∀ f : Int, 2 ^ 61 ≤ f → sgX (ev p0.2 f) = sgX (lastC p0.2)
theorem lead_last {B : Nat} {p : List Int} (ht : trim p = p) (hne : p ≠ []) (h : ∀ c ∈ p, c.natAbs < 2 ^ B) : lastC p ≠ 0 ∧ ∀ x : Int, 2 ^ B ≤ x → sgX (ev p x) = sgX (lastC p) := by
  obtain ⟨q, c, ep, hc⟩ := trim_last ht hne
  rw [ep, lastC_snoc]
  refine ⟨hc, fun x hx => ?_⟩
  have pp : (0 : Int) < 2 ^ B := Int.pow_pos (by decide)
  refine ev_lead (B := 2 ^ B - 1) (by omega) (by omega) (fun d hd => ?_) hc
  have := h d (by rw [ep]; exact List.mem_append_left _ hd)
  have e2 : ((2 ^ B : Nat) : Int) = (2 : Int) ^ B := Int.natCast_pow 2 B
  omega
theorem StsRel.leadOk {A S : Nat} {rs1 rs2 : List Row} (h1 : RowsF A S rs1) (h2 : RowsF A S rs2) (hA : 18 * A < 2 ^ 122) {sts ini : List Stretch} {sl : Stretch} {p0 : Nat × List Int} {r : Pw} (h : StsRel rs1 rs2 sts) (ht : Tame sts) (est : sts = ini ++ [sl]) (esl : sl.2 = p0 :: r) : LeadOk 122 p0.2 (sgX (lastC p0.2)) ∧ SlOk 122 sl := by
  have hslm : sl ∈ sts := by rw [est]; exact List.mem_append_right _ List.mem_cons_self
  obtain ⟨_, few, polys, _⟩ := stOfF_facts h1 h2 (h.of sl hslm)
  have cf : ∀ p ∈ sl.2, Cf 122 p.2 := fun p hp c hc => by
    have := (polys p hp).2.2.2 c hc
    omega
  have hp0 : p0 ∈ sl.2 := by rw [esl]; exact List.mem_cons_self
  obtain ⟨ne, len, tr, _⟩ := polys p0 hp0
  obtain ⟨l0, lx⟩ := lead_last tr ne (cf p0 hp0)
  obtain ⟨s, s0, sx, se⟩ := endless_far tr ne (cf p0 hp0) len
  have es : s = sgX (lastC p0.2) := by
    have a := sx _ (Int.le_refl _)
    rw [← a]
    exact lx _ (pow2_le (by decide))
  subst es
  exact ⟨⟨tr, ne, cf p0 hp0, len, s0, se, (ht ini sl est).2 p0 r esl⟩, ⟨by rw [esl]; simp, by omega, fun p hp => ⟨(polys p hp).1, (polys p hp).2.1, cf p hp⟩⟩⟩
theorem ev_abs_bits {B : Nat} {p : List Int} (hc : Cf B p) (hl : p.length ≤ 10) {x : Int} (h0 : 0 ≤ x) (hx : x < 2 ^ 8) : ev (absL p) x < 2 ^ (B + 90) := by
  have e8 : (2 : Int) ^ 8 = 256 := by decide
  have e8n : (2 : Nat) ^ 8 = 256 := by decide
  have h := ev_bits (C := 8) (x := x) (by omega) (cf_abs hc)
  rw [absL_len] at h
  have m : p.length * (8 + 1) ≤ 90 := by omega
  have h2 : (ev (absL p) x).natAbs < 2 ^ (B + 90) := Nat.lt_of_lt_of_le h (Nat.pow_le_pow_right (by decide) (by omega))
  have e2 : ((2 ^ (B + 90) : Nat) : Int) = (2 : Int) ^ (B + 90) := Int.natCast_pow 2 _
  omega
end OG
namespace OG
open PySem PySem.Spec PyProof.Rows L2
theorem wtA_bits {B : Nat} {x : Int} (h0 : 0 ≤ x) (hx : x < 2 ^ 8) : ∀ {r : Pw}, (∀ p ∈ r, Cf B p.2 ∧ p.2.length ≤ 10) → wtA r x ≤ r.length * 2 ^ (B + 90)
  | [], _ => by show (0 : Int) ≤ ((0 : Nat) : Int) * _; rw [show ((0 : Nat) : Int) = 0 from rfl, Int.zero_mul]; exact Int.le_refl _
  | p :: r, h => by
    have a := h p List.mem_cons_self
    have b := ev_abs_bits a.1 a.2 h0 hx
    have ih := wtA_bits h0 hx (r := r) fun y hy => h y (List.mem_cons_of_mem _ hy)
    have e : ((r.length + 1 : Nat) : Int) * 2 ^ (B + 90) = r.length * 2 ^ (B + 90) + 2 ^ (B + 90) := by
      rw [Int.natCast_add, Int.add_mul]
      omega
    show ev (absL p.2) x + wtA r x ≤ ((r.length + 1 : Nat) : Int) * 2 ^ (B + 90)
    rw [e]
    omega
theorem StsRel.may {A S : Nat} {rs1 rs2 : List Row} (h1 : RowsF A S rs1) (h2 : RowsF A S rs2) (hS : S ≤ 100) {sts : List Stretch} {sl : Stretch} (h : StsRel rs1 rs2 sts) (hslm : sl ∈ sts) (hsl : SlOk 122 sl) : MayLow sl 230 := by
  obtain ⟨_, few, _, _⟩ := stOfF_facts h1 h2 (h.of sl hslm)
  have pos := (h.facts h1 h2).2.1 sl hslm
  have fg : figs sl.1 ≤ S := figs_le_of pos.1 pos.2
  have d9 := deep_le (pw := sl.2) fun p hp => (hsl.polys p hp).2.1
  refine ⟨?_, ?_⟩
  · unfold leastOf
    omega
  · have e8 : (2 : Int) ^ 8 = 256 := by decide
    have b := wtA_bits (B := 122) (x := 230) (by decide) (by omega) (r := sl.2.drop 1) fun p hp => ⟨(hsl.polys p (List.mem_of_mem_drop hp)).2.2, (hsl.polys p (List.mem_of_mem_drop hp)).2.1⟩
    have l16 : (sl.2.drop 1).length ≤ 16 := by
      rw [List.length_drop]
      omega
    have pp : (0 : Int) < 2 ^ (122 + 90) := Int.pow_pos (by decide)
    have m : ((sl.2.drop 1).length : Int) * 2 ^ (122 + 90) ≤ 16 * 2 ^ (122 + 90) := Int.mul_le_mul_of_nonneg_right (by omega) (Int.le_of_lt pp)
    have e217 : (2 : Int) ^ 217 = 32 * 2 ^ (122 + 90) := by decide +kernel
    have f := figs_le_of (n := wtA (sl.2.drop 1) 230) (k := 217) (wtA_nn (by decide) _) (by omega)
    omega
def farXD : List (Str × V) := [("word", .str "Far")]
def FarE (C : Addr) (sts : List Stretch) (s : Int) (H : Hp) (E : XK) : Prop := ∀ n : Int, 0 ≤ n → sgX (dfc sts n) ≠ s → 2000 < figs n → ∀ dd H', Same H H' → H dd = none → H' dd = some (.xd farXD) → E (.ref C) (some dd) H'
def spSetRowsF (C : Addr) : Sp := fun vs H Q E => ∃ (S : Addr) (sts ini : List Stretch) (sl : Stretch) (p0 : Nat × List Int) (r : Pw) (rs1 rs2 : List Row) (A N : Nat), vs = [.ref S, .int (sgX (lastC p0.2))] ∧ StsAt H S sts ∧ RowsF A N rs1 ∧ RowsF A N rs2 ∧ 18 * A < 2 ^ 122 ∧ N ≤ 100 ∧ StsRel rs1 rs2 sts ∧ Tame sts ∧ sts = ini ++ [sl] ∧ sl.2 = p0 :: r ∧
  (∀ (t lr : Addr) (us : List V) (rs : List WRow) (size : Int) (H' : Hp), Same H H' → H' t = some (.tup [.int size, .ref lr]) → H' lr = some (.lst us) → WsAt H' us rs → Chn sts sl p0.2 (sgX (lastC p0.2)) rs size → (0 < size → sgX (dfc sts (size - 1)) ≠ sgX (lastC p0.2)) → size ≤ 2 ^ 2000 → Q (.ref t) H') ∧ FarE C sts (sgX (lastC p0.2)) H E
def spAlikeF (C : Addr) : Sp := fun vs H Q E => ∃ (S : Addr) (sts ini : List Stretch) (sl : Stretch) (rs1 rs2 : List Row) (A N : Nat), vs = [.ref S] ∧ StsAt H S sts ∧ RowsF A N rs1 ∧ RowsF A N rs2 ∧ 18 * A < 2 ^ 122 ∧ N ≤ 100 ∧ StsRel rs1 rs2 sts ∧ Tame sts ∧ sts = ini ++ [sl] ∧ sl.2 = [] ∧
  (∀ (size : Int) (H' : Hp), Same H H' → Settled (dfc sts) 0 size → size ≤ 2 ^ 2000 → Q (.int size) H') ∧ FarE C sts 0 H E
/-- the paper of an answer -/
def Paper (sts : List Stretch) (s size : Int) (R : List WRow) : Prop := (s = 0 ∧ R = [⟨"alike", size, none⟩] ∧ ∃ ini sl, sts = ini ++ [sl] ∧ sl.2 = []) ∨ (s ≠ 0 ∧ ∃ ini sl p0 r rs, sts = ini ++ [sl] ∧ sl.2 = p0 :: r ∧ s = sgX (lastC p0.2) ∧ Chn sts sl p0.2 s rs size ∧ R = rs.reverse)
def spSettledF (C : Addr) : Sp := fun vs H Q E => ∃ (S1 : Addr) (rs1 : List Row) (ls1 : List Addr) (S2 : Addr) (rs2 : List Row) (ls2 : List Addr) (A N : Nat), vs = [.ref S1, .ref S2] ∧ SumsAt H S1 rs1 ls1 ∧ SumsAt H S2 rs2 ls2 ∧ RowsF A N rs1 ∧ RowsF A N rs2 ∧ 18 * A < 2 ^ 122 ∧ N ≤ 100 ∧ (∀ sts, StsRel rs1 rs2 sts → Tame sts) ∧
  (∀ (t lr : Addr) (us : List V) (sts : List Stretch) (s size : Int) (R : List WRow) (H' : Hp), Same H H' → H' t = some (.tup [.str (wordOf s), .int size, .ref lr]) → H' lr = some (.lst us) → WsAt H' us R → StsRel rs1 rs2 sts → Paper sts s size R → Settled (fun n => dif2 rs1 rs2 n) s size → size ≤ 2 ^ 2000 → Q (.ref t) H') ∧
  (∀ (s : Int), (∃ N0, ∀ n, N0 ≤ n → sgX (dif2 rs1 rs2 n) = s) → ∀ n : Int, 0 ≤ n → sgX (dif2 rs1 rs2 n) ≠ s → 2000 < figs n → ∀ dd H', Same H H' → H dd = none → H' dd = some (.xd farXD) → E (.ref C) (some dd) H')
def spComparedF (C : Addr) : Sp := fun vs H Q E => ∃ (S1 : Addr) (rs1 : List Row) (ls1 : List Addr) (S2 : Addr) (rs2 : List Row) (ls2 : List Addr) (A N : Nat), vs = [.ref S1, .ref S2] ∧ SumsAt H S1 rs1 ls1 ∧ SumsAt H S2 rs2 ls2 ∧ RowsF A N rs1 ∧ RowsF A N rs2 ∧ 18 * A < 2 ^ 122 ∧ N ≤ 100 ∧ (∀ sts, StsRel rs1 rs2 sts → Tame sts) ∧
  (∀ (t : Addr) (s size : Int) (H' : Hp), Same H H' → H' t = some (.tup [.str (wordOf s), .int size]) → Settled (fun n => dif2 rs1 rs2 n) s size → size ≤ 2 ^ 2000 → Q (.ref t) H') ∧
  (∀ (s : Int), (∃ N0, ∀ n, N0 ≤ n → sgX (dif2 rs1 rs2 n) = s) → ∀ n : Int, 0 ≤ n → sgX (dif2 rs1 rs2 n) ≠ s → 2000 < figs n → ∀ dd H', Same H H' → H dd = none → H' dd = some (.xd farXD) → E (.ref C) (some dd) H')
end OG

set_option Elab.async false
set_option linter.all false
set_option maxRecDepth 100000
set_option maxHeartbeats 4000000
namespace OG
open PySem PySem.Spec PyProof.Rows L2
section
variable {X : Cx}
/-! ### any of data; max of data whose first is the greatest -/
def rAnyP (K : PySem.W.Frag) : List V → Hp → VK → Prop := fun vs H Q => ∃ (a : Addr) (xs : List V) (ds : List PyData), vs = [.ref a] ∧ SqL K H a xs ∧ DpAll K H xs ds ∧ PyData.plainAll ds = true ∧ (∀ x ∈ ds, x.fits63) ∧ Q (.bl (ds.any PyData.truthy)) H
theorem cr_anyP (hc : X.calm = true) : CallR X (.builtin "any") (rAnyP X.K) := by
  intro pins s σ H vs us Q I r h
  obtain ⟨a, xs, ds, rfl, hs, hd, hp, hf, q⟩ := h
  obtain ⟨its, rv, hl, _⟩ := I.list hs
  rw [Vals.ref1 r]
  obtain ⟨as, hr⟩ := Dp.readsAll I ds xs its hd rv
  refine PySem.W.any_list_data (I.ok.hd hc) hl.isList (by simpa using hr) hp hf fun h' tk k => ?_
  exact ⟨.bl _, H, I.kept (t' := tk) k, rfl, q⟩
theorem best_zero {bt : Nat → Nat → Bool} : ∀ {n : Nat}, (∀ k, 1 ≤ k → k ≤ n → bt k 0 = false) → argBest bt n = 0
  | 0, _ => rfl
  | n + 1, h => by
    have ih : argBest bt n = 0 := best_zero fun k h1 h2 => h k h1 (by omega)
    show (if bt (n + 1) (argBest bt n) = true then n + 1 else argBest bt n) = 0
    rw [ih, h (n + 1) (by omega) (Nat.le_refl _)]
    rfl
def rMax0 (K : PySem.W.Frag) : List V → Hp → VK → Prop := fun vs H Q => ∃ (a : Addr) (v : V) (xs : List V) (x : PyData) (ds : List PyData), vs = [.ref a] ∧ SqL K H a (v :: xs) ∧ DpAll K H (v :: xs) (x :: ds) ∧ PySem.W.AlikeAll (x :: ds) ∧ PyData.depthAll (x :: ds) ≤ 10 ∧ (∀ y ∈ ds, PySem.W.dataLt x y = false) ∧ Q v H
theorem cr_max0 (hc : X.calm = true) (hu : X.A.units + 64 < cLine) : CallR X (.builtin "max") (rMax0 X.K) := by
  intro pins s σ H vs us Q I r h
  obtain ⟨a, v, xs, x, ds, rfl, hs, hd, ha, hdp, hm, q⟩ := h
  obtain ⟨its, rv, hl, _⟩ := I.list hs
  rw [Vals.ref1 r]
  obtain ⟨as, hr⟩ := Dp.readsAll I (x :: ds) (v :: xs) its hd rv
  have hr2 : ReadsAll s.heap its.toArray.toList (x :: ds) as := by simpa using hr
  have hn : its.toArray.size = ds.length + 1 := PySem.W.readsAll_len hr2
  refine call_max_walkH (PySem.W.iter_listW (A := X.A.in1) (I.ok.hd hc) hl.isList fun s₂ e W st hfp hw hk => ?_)
  refine ⟨_, _, _, _, _, _, _, s.heap, _, rfl, W, st, hfp, by omega, hw, hk, PySem.W.cmpIn_gt (A := X.A.in1) hr2 ha (by show X.A.units + 1 + _ < _; omega), fun u s' hP m => ?_⟩
  obtain ⟨h', tk, rfl, hk'⟩ := PySem.W.moved_old e rfl m
  have e0 : argBest (fun i j => PySem.W.dataLt ((x :: ds).getD j .none) ((x :: ds).getD i .none)) (its.toArray.size - 1) = 0 := best_zero fun k k1 k2 => by
    obtain ⟨k, rfl⟩ := Nat.exists_eq_add_of_le' k1
    have hlt : k < ds.length := by omega
    have e1 : (x :: ds).getD (k + 1) .none = ds[k] := by
      rw [List.getD_eq_getElem?_getD, List.getElem?_cons_succ, List.getElem?_eq_getElem hlt]
      rfl
    show PySem.W.dataLt x ((x :: ds).getD (k + 1) .none) = false
    rw [e1]
    exact hm _ (List.getElem_mem hlt)
  rw [e0] at hP
  cases rv with
  | @cons _ u0 _ ur r0 rr =>
    have e2 : u0 = u := by simpa using hP
    subst e2
    exact ⟨v, H, I.kept (t' := tk) hk', r0, q⟩
end
end OG

set_option Elab.async false
set_option linter.all false
set_option maxRecDepth 100000
set_option maxHeartbeats 4000000
namespace OG
open PySem PySem.Spec PyProof.Rows L2
/-! ### growths of sums -/
def tld (m b : Int) : Int × Int := if b = 3 then (if m = 1 then (1, 2) else if m = 3 then (2, 2) else if m = 9 then (4, 2) else (m, 3)) else (m, b)
inductive Res where
  | no
  | un
  | gr (x y z : Int)
def encRes : Res → D
  | .no => .non
  | .un => .str "uneven"
  | .gr x y z => .tup [.int x, .int y, .int z]
def lastTs (rs : List Row) : List Term := (rs.getLast?.map (·.2)).getD []
def grow (rs : List Row) (m b : Int) : Res :=
  match lastTs rs with
  | [] => if m = 0 ∨ (rs.all fun r => r.2.isEmpty) = true then .no else if worthOf rs 0 = (0, 1) then .un else .gr (tld m b).1 (tld m b).2 0
  | t :: _ => if m = 0 ∨ m < b ^ t.1.1.toNat then .gr (2 ^ t.1.1.toNat) 2 t.1.2 else .gr (tld m b).1 (tld m b).2 (if m > b ^ t.1.1.toNat then 0 else t.1.2 + 1)
/-- what is asked of the sums here -/
structure GSum (rs : List Row) : Prop where
  ok : ROk rs
  n0 : rs ≠ []
  falls : ∀ r ∈ rs, Falls r.2
def spTold : Sp := fun vs H Q _ => ∃ m b f : Int, vs = [.int m, .int b, .int f] ∧ 1 ≤ m ∧ m ≤ 9 ∧ (b = 2 ∨ b = 3) ∧ ∀ v H', Same H H' → Rp H' v (encRes (.gr (tld m b).1 (tld m b).2 f)) → Q v H'
def uneF : List (Str × V) := [("name", .str ""), ("word", .str "Uneven")]
def spFaint (CU : Addr) : Sp := fun vs H Q E => ∃ (S : Addr) (rs : List Row) (ls : List Addr) (m b : Int), vs = [.ref S, .int m, .int b] ∧ SumsAt H S rs ls ∧ GSum rs ∧ lastTs rs = [] ∧ 0 ≤ m ∧ m ≤ 9 ∧ (b = 2 ∨ b = 3) ∧
  (grow rs m b ≠ .un → ∀ v H', Same H H' → Rp H' v (encRes (grow rs m b)) → Q v H') ∧ (grow rs m b = .un → ∀ d H', Same H H' → H d = none → H' d = some (.xd uneF) → E (.ref CU) (some d) H')
def spGrowth (CU : Addr) : Sp := fun vs H Q E => ∃ (S : Addr) (rs : List Row) (ls : List Addr) (m b : Int), vs = [.ref S, .int m, .int b] ∧ SumsAt H S rs ls ∧ GSum rs ∧ 0 ≤ m ∧ m ≤ 9 ∧ (b = 2 ∨ b = 3) ∧
  (grow rs m b ≠ .un → ∀ v H', Same H H' → Rp H' v (encRes (grow rs m b)) → Q v H') ∧ (grow rs m b = .un → ∀ d H', Same H H' → H d = none → H' d = some (.xd uneF) → E (.ref CU) (some d) H')
def spDue : Sp := fun vs H Q _ => ∃ (S : Addr) (rs : List Row) (ls : List Addr) (m b : Int), vs = [.ref S, .int m, .int b] ∧ SumsAt H S rs ls ∧ GSum rs ∧ 0 ≤ m ∧ m ≤ 9 ∧ (b = 2 ∨ b = 3) ∧ ∀ v H', Same H H' → Rp H' v (encRes (grow rs m b)) → Q v H'

theorem dp_lists {K : PySem.W.Frag} {H : Hp} {us : List V} {rs : List Row} {ls : List Addr} (h : RowsAt H us rs ls) : DpAll K H (ls.map V.ref) (rs.map fun r => PyData.list (r.2.map pyT)) := by
  induction h with
  | nil => exact .nil
  | cons h t ih =>
    obtain ⟨a, _, _, vs, h1, h2⟩ := h
    exact .cons (.lst (SqL.of h1) (dp_terms _ _ h2)) ih
theorem plain_terms : ∀ ts : List Term, PyData.plainAll (ts.map pyT) = true
  | [] => rfl
  | t :: r => by
    show (PyData.plain (pyT t) && PyData.plainAll (r.map pyT)) = true
    rw [plain_terms r]
    rfl
theorem plain_lists : ∀ rs : List Row, PyData.plainAll (rs.map fun r => PyData.list (r.2.map pyT)) = true
  | [] => rfl
  | t :: r => by
    show (PyData.plainAll (t.2.map pyT) && PyData.plainAll (r.map fun r => PyData.list (r.2.map pyT))) = true
    rw [plain_lists r, plain_terms t.2]
    rfl
theorem any_lists : ∀ rs : List Row, ((rs.map fun r => PyData.list (r.2.map pyT)).any PyData.truthy) = !(rs.all fun r => r.2.isEmpty)
  | [] => rfl
  | t :: r => by
    rw [List.map_cons, List.any_cons, any_lists r, List.all_cons, Bool.not_and]
    congr 1
    show (!(t.2.map pyT).isEmpty) = !t.2.isEmpty
    cases t.2 <;> rfl
theorem eqv_pair (a b c d : Int) : PyData.eqv (.tuple [.int a, .int b]) (.tuple [.int c, .int d]) = decide ((a, b) = (c, d)) := by
  by_cases h1 : a = c <;> by_cases h2 : b = d <;> simp [PyData.eqv, PyData.eqvAll, h1, h2]
theorem shaped_pair (a b : Int) : SeqAt.shaped (.tuple [.int a, .int b]) = true := rfl
theorem dp_part {K : PySem.W.Frag} {H : Hp} {v : V} {o : Int × Int} (h : PartAt K H v o) : Dp K H v (.tuple [.int o.1, .int o.2]) := by
  obtain ⟨a, rfl, h⟩ := h
  exact .tup h (.cons (.int _) (.cons (.int _) .nil))
theorem can_terms : ∀ ts : List Term, PyData.canLayAll0 (ts.map pyT) = true
  | [] => rfl
  | t :: r => by
    show (PyData.canLay0 (pyT t) && PyData.canLayAll0 (r.map pyT)) = true
    rw [can_terms r]
    rfl
theorem depth_terms : ∀ ts : List Term, PyData.depthAll (ts.map pyT) ≤ 10
  | [] => by decide
  | t :: r => by
    show max (PyData.depth (pyT t)) (PyData.depthAll (r.map pyT)) ≤ 10
    have e : PyData.depth (pyT t) ≤ 10 := by
      show PyData.depth (.tuple [.tuple [.int 0, .int 0], .tuple [.int 0, .int 0]]) ≤ 10
      decide
    exact Nat.max_le.mpr ⟨e, depth_terms r⟩
theorem shaped_terms (ts : List Term) : SeqAt.shaped (.list (ts.map pyT)) = true := by
  have := depth_terms ts
  unfold SeqAt.shaped
  rw [Bool.and_eq_true]
  refine ⟨can_terms ts, decide_eq_true ?_⟩
  show PyData.depthAll (ts.map pyT) + 1 ≤ 64
  omega
theorem eqv_nil (ts : List Term) : PyData.eqv (.list (ts.map pyT)) (.list []) = ts.isEmpty := by
  cases ts with
  | nil => decide +kernel
  | cons t r => simp [PyData.eqv, PyData.eqvAll]

/-! ### a comprehension whose items are new -/
theorem lc_grow {K : PySem.W.Frag} {a : Addr} {xs : List V} {g : TG} {te : TE} {vs : List Nat} {σ : L2.St} {H1 : Hp} {D : Addr} {Qd : Hp → Prop} (R : Nat → V → Hp → Prop)
    (hR : ∀ i v (H H' : Hp) l, H D = some (.lst l) → R i v H → (∀ b o, b ≠ D → H b = some o → H' b = some o) → R i v H')
    (hz : xs.length < 100000) (hS : H1 a = some (.lst xs)) (hD : H1 D = none)
    (he : ∀ (i : Nat) (x : V) (H2 : Hp) (Nx : V → Hp → Prop), xs[i]? = some x → Same H1 H2 → (∃ l, H2 D = some (.lst l)) → (∀ y H3, Same H2 H3 → R i y H3 → Nx y H3) → g x (wipe σ vs) H2 fun σ2 H3 => wipe σ2 vs = wipe σ vs ∧ te σ2 H3 Nx)
    (hd : ∀ (H' : Hp) (ys : List V), Same H1 H' → H' D = some (.lst ys) → ys.length = xs.length → (∀ i y, ys[i]? = some y → R i y H') → Qd H') :
    ∃ W : Nat → Nat → Hp → Prop, (∃ m, W 0 m (upd H1 D (.lst []))) ∧ ∀ i m H, W i m H →
      ((Itl K a).stop i H ∧ Qd H) ∨ ((Itl K a).go i H ∧ ∃ Nx : Hp → Prop, (∀ H', Nx H' → ∃ m', m' < m ∧ W (i + 1) m' H') ∧ ∀ x H', (Itl K a).yld i H x H' → g x (wipe σ vs) H' fun σ2 H2 => wipe σ2 vs = wipe σ vs ∧ tYes σ2 H2 fun b H3 =>
        if b = true then te σ2 H3 fun y H4 => ∃ acc, H4 D = some (.lst acc) ∧ acc.length < sizeLine ∧ Nx (upd H4 D (.lst (acc ++ [y]))) else Nx H3) := by
  refine lc_list (xs := xs) (fun i H' => Same H1 H' ∧ ∃ ys, H' D = some (.lst ys) ∧ ys.length = i ∧ ∀ j y, ys[j]? = some y → R j y H') ⟨same_new hD, [], upd_same, rfl, fun j y h => by simp at h⟩ (fun i H' hi hP => SqL.of (hP.1 _ _ hS)) (fun i x H' hx hP => ?_) (fun H' hP => ?_)
  · obtain ⟨sm, ys, hl, hn, hr⟩ := hP
    have hi : i < xs.length := by
      obtain ⟨h, _⟩ := List.getElem?_eq_some_iff.mp hx
      exact h
    refine he i x H' _ hx sm ⟨_, hl⟩ fun y H3 s3 hy => ?_
    have l3 := s3 _ _ hl
    refine ⟨ys, l3, szl (by omega), Same.upd_new (sm.trans s3) hD, ys ++ [y], upd_same, by rw [List.length_append, hn]; rfl, fun j z hj => ?_⟩
    rcases Nat.lt_or_ge j ys.length with h | h
    · rw [List.getElem?_append_left h] at hj
      exact hR j z H' _ _ hl (hr j z hj) fun b o nb hb => by rw [upd_ne nb]; exact s3 _ _ hb
    · rw [List.getElem?_append_right h] at hj
      have ej : j = i := by
        rcases Nat.lt_or_ge (j - ys.length) 1 with h2 | h2
        · omega
        · rw [List.getElem?_eq_none (by simpa using h2)] at hj
          cases hj
      rw [show j - ys.length = 0 by omega] at hj
      have ez : y = z := by simpa using hj
      subst ez
      rw [ej]
      exact hR i y H3 _ _ l3 hy fun b o nb hb => by rw [upd_ne nb]; exact hb
  · obtain ⟨sm, ys, hl, hn, hr⟩ := hP
    exact hd H' ys sm hl hn hr
theorem imm_but {H H' : Hp} {D : Addr} {l : List V} (hD : H D = some (.lst l)) (k : ∀ b o, b ≠ D → H b = some o → H' b = some o) : Imm H H' := fun b xs hb => k b _ (fun z => by rw [z, hD] at hb; cases hb) hb
theorem rpl_at {H : Hp} {f : Term → D} : ∀ {ys : List V} {ts : List Term}, ys.length = ts.length → (∀ (j : Nat) (y : V), ys[j]? = some y → ∃ t, ts[j]? = some t ∧ Rp H y (f t)) → RpL H ys (ts.map f)
  | [], [], _, _ => rfl
  | [], _ :: _, h, _ => by simp at h
  | _ :: _, [], h, _ => by simp at h
  | y :: ys, t :: ts, h, hh => by
    obtain ⟨t', e, hr⟩ := hh 0 y rfl
    cases e
    exact ⟨y, ys, rfl, hr, rpl_at (by simpa using h) fun j z hz => hh (j + 1) z hz⟩
theorem rows_at {H : Hp} {C : Addr → Prop} {f : Row → Row} : ∀ {ys : List V} {rs : List Row}, ys.length = rs.length → (∀ (j : Nat) (y : V), ys[j]? = some y → ∃ r l, rs[j]? = some r ∧ RowAt H y (f r) l ∧ C l) → ∃ ls, RowsAt H ys (rs.map f) ls ∧ ∀ l ∈ ls, C l
  | [], [], _, _ => ⟨[], .nil, fun l hl => (nomatch hl)⟩
  | [], _ :: _, h, _ => by simp at h
  | _ :: _, [], h, _ => by simp at h
  | y :: ys, r :: rs, h, hh => by
    obtain ⟨r', l, e, hr, hc⟩ := hh 0 y rfl
    cases e
    obtain ⟨ls, h1, h2⟩ := rows_at (C := C) (f := f) (ys := ys) (rs := rs) (by simpa using h) fun j z hz => hh (j + 1) z hz
    refine ⟨l :: ls, .cons hr h1, fun x hx => ?_⟩
    rcases List.mem_cons.mp hx with rfl | hx
    · exact hc
    · exact h2 x hx
def absT (t : Term) : Term := (t.1, ((t.2.1.natAbs : Int), t.2.2))
def absR (r : Row) : Row := (r.1, r.2.map absT)
theorem gsum_abs {top deep wide : Int} {rs : List Row} (h : RowsOk top deep wide rs) (h1 : top ≤ 9) (h2 : deep ≤ 9) (h3 : wide < 2 ^ 100) : GSum (rs.map absR) := by
  have ro := rows_rok h h1 h2 h3
  have em : (rs.map absR).map (·.1) = rs.map (·.1) := by rw [List.map_map]; rfl
  refine ⟨⟨?_, ?_, ?_, fun r hr => ?_⟩, ?_, fun r hr => ?_⟩
  · have := ro.first
    cases rs with
    | nil => exact this
    | cons r _ => exact this
  · rw [em]
    exact ro.rises
  · rw [List.length_map]
    exact ro.short
  · obtain ⟨r0, hr0, rfl⟩ := List.mem_map.mp hr
    obtain ⟨k1, k2⟩ := ro.terms r0 hr0
    refine ⟨by show (r0.2.map absT).length ≤ 8; rw [List.length_map]; exact k1, fun t ht => ?_⟩
    obtain ⟨t0, ht0, rfl⟩ := List.mem_map.mp (show t ∈ r0.2.map absT from ht)
    obtain ⟨a1, a2, a3, a4, a5, a6, a7⟩ := k2 t0 ht0
    exact ⟨a1, a2, a3, a4, by show ((t0.2.1.natAbs : Int)).natAbs < 2 ^ 101; rw [Int.natAbs_natCast]; exact a5, a6, a7⟩
  · exact fun z => h.n0 (List.map_eq_nil_iff.mp z)
  · obtain ⟨r0, hr0, rfl⟩ := List.mem_map.mp hr
    obtain ⟨_, _, hf⟩ := h.terms r0 hr0
    show List.Pairwise _ (r0.2.map absT)
    rw [List.pairwise_map]
    exact hf
def spPlus : Sp := fun vs H Q _ => ∃ (d L : Addr) (top deep wide : Int), vs = [.ref d, .int top, .int deep, .int wide] ∧ Dr H d L ∧ 0 ≤ top ∧ top ≤ 9 ∧ 0 ≤ deep ∧ deep ≤ 9 ∧ 1 ≤ wide ∧ wide < 2 ^ 100 ∧
  ∀ (S : Addr) (rs : List Row) (ls : List Addr) (H' : Hp), S ≠ d → (∀ l ∈ ls, l ≠ d) → SumsAt H' S rs ls → GSum rs → Dr H' d L → Go (· = d) H H' → Q (.ref S) H'
theorem pi_listK {X : Cx} {K : PySem.W.Frag} {tg l : Expr} {tl : TE} (h : X.K = K) (hl : PE X l tl) : PI X tg l (iList K tl) := h ▸ pi_list hl
theorem tru_lst {K : PySem.W.Frag} {H : Hp} {l : Addr} {us : List V} (h : H l = some (.lst us)) : TruV K (.ref l) H (!decide (us.length = 0)) := .inl ⟨us, SqL.of h, by cases us <;> simp⟩
theorem atI_head (x : V) (xs : List V) : atI (x :: xs) 0 = some x := by
  have e : ixN (x :: xs).length 0 = some 0 := by
    unfold ixN
    rw [if_pos (by decide), if_pos (by rw [List.length_cons]; omega)]
    rfl
  unfold atI
  rw [e]
  rfl
theorem last_row {H : Hp} {us : List V} {rs : List Row} {ls : List Addr} (hR : RowsAt H us rs ls) (h0 : rs ≠ []) : ∃ (us0 : List V) (bl l : Addr) (r : Row) (vs : List V), us = us0 ++ [.ref bl] ∧ r ∈ rs ∧ lastTs rs = r.2 ∧ H bl = some (.tup [.int r.1, .ref l]) ∧ H l = some (.lst vs) ∧ RpL H vs (r.2.map encT) ∧ l ∈ ls := by
  have lu := hR.len
  rcases List.eq_nil_or_concat us with e | ⟨us0, u, e⟩
  · exact absurd (List.eq_nil_of_length_eq_zero (by rw [← lu.1, e]; rfl)) h0
  rw [List.concat_eq_append] at e
  have hl : us[us0.length]? = some u := by rw [e]; simp
  obtain ⟨r, l, hr, hl2, hRl⟩ := hR.get hl
  obtain ⟨bl, rfl, hb, vs, h1, h2⟩ := hRl
  have e2 : us0.length = rs.length - 1 := by
    have := lu.1
    rw [e, List.length_append] at this
    simp at this
    omega
  refine ⟨us0, bl, l, r, vs, e, List.mem_of_getElem? hr, ?_, hb, h1, h2, List.mem_of_getElem? hl2⟩
  unfold lastTs
  rw [List.getLast?_eq_getElem?, ← e2, hr]
  rfl
def topOf (ts : List Term) : Int × Int := match ts with | [] => (0, 0) | t :: _ => t.1

def pyK (t : Term) : PyData := .tuple [.int t.1.1, .int t.1.2]
theorem lt_pair {a b c d : Int} (h : c < a ∨ (c = a ∧ d < b)) : PySem.W.dataLt (.tuple [.int a, .int b]) (.tuple [.int c, .int d]) = false := by
  rw [PySem.W.dataLt_tuple]
  show PyProof.Rows.lexLt PyProof.Rows.itemOrd [.inl 1, .inl a, .inl 1, .inl b, .inl 0] [.inl 1, .inl c, .inl 1, .inl d, .inl 0] = false
  rw [PyProof.Rows.lex_self]
  rcases h with h | ⟨rfl, h⟩
  · rw [PyProof.Rows.lex_diff (fun z => by injection z with z; omega)]
    show decide (a < c) = false
    exact decide_eq_false (by omega)
  · rw [PyProof.Rows.lex_self, PyProof.Rows.lex_self, PyProof.Rows.lex_diff (fun z => by injection z with z; omega)]
    show decide (b < d) = false
    exact decide_eq_false (by omega)
theorem dp_keys {K : PySem.W.Frag} {H : Hp} : ∀ (ts : List Term) (us : List V), RpL H us (ts.map fun t => encP t.1) → DpAll K H us (ts.map pyK)
  | [], _, h => by rw [show _ = [] from h]; exact .nil
  | t :: r, _, h => by
    obtain ⟨v, vs, rfl, hv, ht⟩ := h
    exact .cons (rp_dp (encP t.1) v hv) (dp_keys r vs ht)
theorem depth_keys : ∀ ts : List Term, PyData.depthAll (ts.map pyK) ≤ 10
  | [] => by decide
  | t :: r => by
    show max (PyData.depth (pyK t)) (PyData.depthAll (r.map pyK)) ≤ 10
    have e : PyData.depth (pyK t) ≤ 10 := by
      show PyData.depth (.tuple [.int 0, .int 0]) ≤ 10
      decide
    exact Nat.max_le.mpr ⟨e, depth_keys r⟩
theorem alike_keys (ts : List Term) : PySem.W.AlikeAll (ts.map pyK) := ⟨fun x hx y hy => by
  obtain ⟨a, _, rfl⟩ := List.mem_map.mp hx
  obtain ⟨b, _, rfl⟩ := List.mem_map.mp hy
  rfl, fun x hx => by
  obtain ⟨a, _, rfl⟩ := List.mem_map.mp hx
  exact fun z => by cases z⟩
theorem max_keys {t : Term} {ts : List Term} (h : Falls (t :: ts)) : ∀ y ∈ ts.map pyK, PySem.W.dataLt (pyK t) y = false := fun y hy => by
  obtain ⟨a, ha, rfl⟩ := List.mem_map.mp hy
  have h1 := (List.pairwise_cons.mp h).1 a ha
  exact lt_pair (SrtO.lexB_iff.mp h1)
theorem ne_nil {K : PySem.W.Frag} {H : Hp} {l : Addr} {ts : List Term} {Q : VK} (hT : TermsAt H l ts) (h : ∀ H', Same H H' → Q (.bl (!ts.isEmpty)) H') :
    ([] : List V).length ≤ sizeLine ∧ ∀ p, H p = none → rNeD K (.ref l) (.ref p) (upd H p (.lst [])) Q := by
  refine ⟨by decide, fun p np => ?_⟩
  obtain ⟨us, h1, h2⟩ := hT.same (same_new (o := .lst []) np)
  refine ⟨_, _, .lst (SqL.of h1) (dp_terms _ _ h2), .lst (SqL.of upd_same) .nil, shaped_terms _, rfl, ?_⟩
  rw [eqv_nil]
  exact h _ (same_new np)
theorem eq_nil {K : PySem.W.Frag} {H : Hp} {l : Addr} {ts : List Term} {Q : VK} (hT : TermsAt H l ts) (h : ∀ H', Same H H' → Q (.bl ts.isEmpty) H') :
    ([] : List V).length ≤ sizeLine ∧ ∀ p, H p = none → rEqD K (.ref l) (.ref p) (upd H p (.lst [])) Q := by
  refine ⟨by decide, fun p np => ?_⟩
  obtain ⟨us, h1, h2⟩ := hT.same (same_new (o := .lst []) np)
  refine ⟨_, _, .lst (SqL.of h1) (dp_terms _ _ h2), .lst (SqL.of upd_same) .nil, shaped_terms _, rfl, ?_⟩
  rw [eqv_nil]
  exact h _ (same_new np)
end OG

set_option Elab.async false
set_option linter.all false
set_option maxRecDepth 100000
set_option maxHeartbeats 4000000
namespace OGX
open PySem PySem.Spec PyProof.Rows L2 OG
/-! ### a tuple of any number of classes in an except clause -/
section
variable {M : Model} {A : Around} {E : Value → Shared → Prop} {s : Shared} {α : Type}
theorem loop_all {f : Value → α → Sem (ForInStep α)} {r : α} : ∀ {cs : List Value} {Q : α → Shared → Prop}, (∀ c ∈ cs, ∀ Q' : ForInStep α → Shared → Prop, Q' (.yield r) s → wpAny M A (f c r) Q' E s) → Q r s → wpAny M A (forIn cs r f) Q E s
  | [], Q, _, q => by
    simp only [List.forIn_nil]
    exact wpAny_pure q
  | c :: cs, Q, st, q => by
    simp only [List.forIn_cons]
    exact wpAny_bind (st c List.mem_cons_self _ (loop_all (fun d hd => st d (List.mem_cons_of_mem _ hd)) q))
theorem loop_find {f : Value → α → Sem (ForInStep α)} {r r1 : α} {b : Value → Bool} : ∀ {cs : List Value} {Q : α → Shared → Prop}, (∀ c ∈ cs, ∀ Q' : ForInStep α → Shared → Prop, Q' (if b c then .done r1 else .yield r) s → wpAny M A (f c r) Q' E s) → Q (if cs.any b then r1 else r) s → wpAny M A (forIn cs r f) Q E s
  | [], Q, _, q => by
    simp only [List.forIn_nil]
    exact wpAny_pure q
  | c :: cs, Q, st, q => by
    simp only [List.forIn_cons]
    refine wpAny_bind (st c List.mem_cons_self _ ?_)
    rw [List.any_cons] at q
    cases hb : b c with
    | true =>
      rw [hb, Bool.true_or, if_pos rfl] at q
      exact wpAny_pure q
    | false =>
      rw [hb, Bool.false_or] at q
      exact loop_find (fun d hd => st d (List.mem_cons_of_mem _ hd)) q
end
theorem exm_all {K : PySem.W.Frag} {cls : Value} : ∀ {cs : List Value} {b : Bool}, PySem.W.exmAny K cls cs = some b → (∀ c ∈ cs, ∃ d, PySem.W.exmOne K cls c = some d) ∧ b = cs.any (fun c => PySem.W.exmOne K cls c == some true)
  | [], b, h => ⟨fun c hc => (nomatch hc), (Option.some.inj h).symm⟩
  | c :: cs, b, h => by
    obtain ⟨b1, d1, h1, h2, rfl⟩ := PySem.W.exmAny_cons h
    obtain ⟨r1, r2⟩ := exm_all h2
    refine ⟨fun d hd => ?_, ?_⟩
    · rcases List.mem_cons.mp hd with rfl | hd
      · exact ⟨b1, h1⟩
      · exact r1 d hd
    · rw [List.any_cons, ← r2, h1]
      cases b1 <;> rfl
theorem exm_tups {M : Model} {K : PySem.W.Frag} {cs : List Value} {cls : Value} {tp e : Addr} {b : Bool} {h : Heap} (X : K.In h) (LT : PySem.W.Looks M h (typeOf (.ref e)) cls) (hp : h.get? tp = some { cls := .type "tuple", data := .seq cs.toArray }) (hx : PySem.W.exmAny K cls cs = some b) :
    PySem.W.Looks M h (excMatches (.ref e) (.ref tp)) b := by
  intro A Q E s k₀ q
  obtain ⟨hh, g, d, tk, os⟩ := s
  have k : ∀ b o, h.get? b = some o → hh.get? b = some o := k₀
  have LT0 : PySem.W.Looks M h (isInstance (.ref tp) (.type "tuple")) true := ((PySem.W.Looks.ld hp).andThen .now).andThen (PySem.W.Looks.of_pure isSubtype_tuple_tuple)
  obtain ⟨all, eb⟩ := exm_all hx
  have LT := LT.keeps k
  have LT0 := LT0.keeps k
  have hp' := k _ _ hp
  unfold excMatches
  refine wpAny_bind (LT0.at ?_)
  dsimp only
  rw [if_pos rfl]
  first
    | refine wpAny_bind (wpAny_seqItems hp' rfl ?_)
    | refine wpAny_bind (wpAny_bind (wpAny_seqItems hp' rfl (wpAny_pure ?_)))
  dsimp only [Option.getD_some, Option.getD]
  refine wpAny_bind (wpAny_pure ?_)
  refine wpAny_bind (loop_all (fun c hc Q' q' => ?_) ?_)
  · obtain ⟨d1, h1⟩ := all c hc
    obtain ⟨e1, _⟩ := PySem.W.exm_cls (M := M) X h1
    have e1 := e1.keeps k
    refine wpAny_bind (e1.at ?_)
    simp only [Bool.not_true, Bool.false_eq_true, if_false]
    exact wpAny_pure q'
  · refine wpAny_bind (LT.at ?_)
    refine wpAny_bind (loop_find (b := fun c => PySem.W.exmOne K cls c == some true) (r1 := (some true, ())) (fun c hc Q' q' => ?_) ?_)
    · obtain ⟨d1, h1⟩ := all c hc
      obtain ⟨_, s1⟩ := PySem.W.exm_cls (M := M) X h1
      have s1 := s1.keeps k
      rw [h1] at q'
      refine wpAny_bind (s1.at ?_)
      cases d1 with
      | true => exact wpAny_pure q'
      | false => exact wpAny_pure q'
    · rw [← eb]
      cases b with
      | true => exact wpAny_pure q
      | false => exact wpAny_pure q
/-! ### several except clauses, each with a name for what is caught: a class or a tuple of classes each; what stands behind the last one that is read is not reached -/
inductive NamesL (X : Cx) : List Expr → List Value → Prop where
  | nil : NamesL X [] []
  | cons {x : Str} {c : Value} {np : Pos} {es : List Expr} {cs : List Value} (h : Names X x c) (r : NamesL X es cs) : NamesL X (.Name x np :: es) (c :: cs)
inductive TestX (X : Cx) : Expr → List Value → Prop where
  | one {x : Str} {c : Value} {np : Pos} (h : Names X x c) : TestX X (.Name x np) [c]
  | tup {es : List Expr} {cs : List Value} {k : Nat} {tpos : Pos} (h : NamesL X es cs) (hl : cs.length ≤ sizeLine) : TestX X (.Tuple es k tpos) cs
section
variable {X : Cx} {pins : List (Addr × Obj)} {σ : L2.St} {H : Hp} {s : Shared}
theorem name_run {x : Str} {c : Value} {np : Pos} {a : Addr} {pn : List (Addr × Obj)} (S : L2.Inv (X.suite a pn) pins σ H s) (hc : Names X x c) {Q E : Value → Shared → Prop} (q : Q c s) : wpAny (model X.prog X.w) (X.A.mark (some (Value.ref a))) (eval (Expr.Name x np) X.env) Q E s := by
  obtain ⟨hg, hdbg, hm | ⟨hm, hv, hnn⟩⟩ := hc
  · exact ld_glob (X := X.suite a pn) S hg hm q hdbg
  · exact ld_blt (X := X.suite a pn) S hg hm hv q hnn hdbg
theorem names_run {a : Addr} {pn : List (Addr × Obj)} {pos : Pos} (S : L2.Inv (X.suite a pn) pins σ H s) {E : Value → Shared → Prop} {es : List Expr} {cs : List Value} (h : NamesL X es cs) : ∀ {Q : List Value → Shared → Prop}, Q cs s → wpAny (model X.prog X.w) (X.A.mark (some (Value.ref a))) (spliced (backTo pos (starEach es X.env))) Q E s := by
  induction h with
  | nil => exact fun q => wpAny_items_nil q
  | cons hc r ih => exact fun q => wpAny_items_cons (name_run S hc (ih q))
theorem test_run {a : Addr} {pn : List (Addr × Obj)} {cls : Value} {b : Bool} {te : Expr} {cs : List Value} (S : L2.Inv (X.suite a pn) pins σ H s) (h : TestX X te cs) (LT : PySem.W.Looks (model X.prog X.w) s.heap (typeOf (.ref a)) cls) (hx : PySem.W.exmAny X.K cls cs = some b)
    {Q : Bool → Shared → Prop} {E1 E2 : Value → Shared → Prop} (q : ∀ h', (∀ b o, s.heap.get? b = some o → h'.get? b = some o) → Q b { s with heap := h' }) :
    wpAny (model X.prog X.w) (X.A.mark (some (Value.ref a))) (eval te X.env) (fun c s₁ => wpAny (model X.prog X.w) (X.A.mark (some (Value.ref a))) (excMatches (.ref a) c) Q E1 s₁) E2 s := by
  have KX : X.K.In s.heap := S.kIn
  cases h with
  | one hc =>
    obtain ⟨b1, d1, h1, h2, eb⟩ := PySem.W.exmAny_cons hx
    have e2 : false = d1 := Option.some.inj h2
    subst e2
    rw [Bool.or_false] at eb
    subst eb
    exact name_run S hc ((PySem.W.exm_one (M := model X.prog X.w) KX LT h1).here (q s.heap fun _ _ z => z))
  | tup hc hl =>
    refine wpAny_Tuple (names_run S hc ⟨hl, ?_⟩)
    have kp : ∀ b o, s.heap.get? b = some o → (s.heap.push { cls := .type "tuple", data := .seq cs.toArray }).get? b = some o := fun _ _ z => Heap.get?_push_of_some _ z
    exact (exm_tups (KX.keeps kp) (LT.keeps kp) (Heap.get?_push_size s.heap rfl) hx).here (q _ kp)
end
theorem flying_kept {B : Heap} {stk : List Env} {a : Addr} {Z : Obj → Prop} {h h' : Heap} (k : ∀ b o, h.get? b = some o → h'.get? b = some o) (f : HandSPX.FlyingZ B stk a Z h) : HandSPX.FlyingZ B stk a Z h' := by
  obtain ⟨f1, f2, f3, oe, vs, T, oT, ts, he, hz, hd, h1, hnT, hTe, hT, hdT, h3⟩ := f
  exact ⟨fun b o e => k b o (f1 b o e), f2, f3.of_keeps fun b o e _ => ⟨o, k b o e, rfl⟩, oe, vs, T, oT, ts, k _ _ he, hz, hd, h1, hnT, hTe, k _ _ hT, hdT, h3⟩
abbrev Clause := List Value × Nat × (Addr → Value → Option Addr → TS)
inductive Hds (X : Cx) : List ExceptHandler → List Clause → Prop where
  | nil {hds : List ExceptHandler} : Hds X hds []
  | cons {te : Expr} {n : Str} {cs : List Value} {i : Nat} {ts : Addr → Value → Option Addr → TS} {b₀ : Stmt} {suite : List Stmt} {pos' : Pos} {hds : List ExceptHandler} {l : List Clause}
      (hi : X.N[i]? = some n) (hln : X.env.kindOf n = some NameKind.local) (hc : TestX X te cs)
      (hsu : ∀ (a : Addr) (oe : Obj) (cls : Value) (d : Option Addr) (pn : List (Addr × Obj)), Zc cls d oe → (∃ vs, oe.data = Data.fields vs) → PSs (X.suite a ((a, oe) :: pn)) (b₀ :: suite) (ts a cls d))
      (r : Hds X hds l) : Hds X (ExceptHandler.ExceptHandler (some te) (some n) (b₀ :: suite) pos' :: hds) ((cs, i, ts) :: l)
def outX (D : Ends) (i : Nat) : Ends := { nx := fun σ' H' => D.nx (List.set σ' i none) H', rt := D.rt, bk := fun σ' H' => D.bk (List.set σ' i none) H', ct := fun σ' H' => D.ct (List.set σ' i none) H' }
def wMany (K : PySem.W.Frag) (n : Nat) (D : Ends) : List Clause → WX
  | [] => fun _ _ _ _ => False
  | (cs, i, ts) :: r => fun cls d σ H => ∃ b, PySem.W.exmAny K cls cs = some b ∧ (b = true → σ.length = n → ∀ a, H a = none → ts a cls d (outX D i) (List.set σ i (some (.ref a))) H) ∧ (b = false → wMany K n D r cls d σ H)
theorem handle_X {X : Cx} (ok : X.Ok) (hN : X.N.Nodup) {pins : List (Addr × Obj)} {σ : L2.St} {H : Hp} {cls : Value} {d : Option Addr} {a : Addr} {B : Heap} {stk : List Env} {D : Ends}
    (na : H a = none) (nL : a ≠ X.env.locals) (nF : ¬ a ∈ X.fs) {hds : List ExceptHandler} {l : List Clause} (h : Hds X hds l) :
    ∀ {s3 : Shared}, HandSPX.FlyingZ B stk a (Zc cls d) s3.heap → L2.Inv X pins σ H s3 →
    (∀ h4, HandSPX.FlyingZ B stk a (Zc cls d) h4 → s3.heap.UpToSlots h4 → L2.Inv X pins σ H { s3 with heap := h4 }) →
    wMany X.K X.N.length D l cls d σ H → wpAny (model X.prog X.w) X.A (handleBy (Value.ref a) X.env hds) (SP X pins D) X.xe s3 := by
  induction h with
  | nil => exact fun _ _ _ w => w.elim
  | @cons te n cs i ts b₀ suite pos' hds l hi hln hc hsu r ih =>
    rintro s3 fl J3 land ⟨b, hb1, hyes, hno⟩
    obtain ⟨oe3, vs3, he3, hz3, hd3⟩ := HandSPX.FlyingZ.there fl
    have S3 := Inv.suite J3 he3 hd3 na nL nF
    refine wpAny_handleBy_cons (codeAny_handlers_test ?_) (by intro e; cases e)
    have LT : PySem.W.Looks (model X.prog X.w) s3.heap (typeOf (Value.ref a)) cls := fun A Q E s k q => wpAny_typeOf_ref (k a oe3 he3) (by rw [hz3.1]; exact q)
    refine test_run S3 hc LT hb1 fun h' kp => ?_
    have fl' := flying_kept kp fl
    have J' : L2.Inv X pins σ H { s3 with heap := h' } := J3.kept (t' := s3.toks) kp
    have land' : ∀ h4, HandSPX.FlyingZ B stk a (Zc cls d) h4 → h'.UpToSlots h4 → L2.Inv X pins σ H { s3 with heap := h4 } := fun h4 f4 u4 => land h4 f4 (Heap.UpToSlots.trans (fun b o e _ => ⟨o.slots, kp b o e⟩) u4)
    cases b with
    | false => exact ih fl' J' land' (hno rfl)
    | true =>
      refine codeAny_handlers_suite_as (HandSPX.lands_againZ fl' fun h4 fl4 up4 => ?_)
      have J4 := land' h4 fl4 up4
      obtain ⟨oe4, vs4, he4, hz4, hd4⟩ := HandSPX.FlyingZ.there fl4
      have S4 := Inv.suite J4 he4 hd4 na nL nF
      refine store_ok (X := X.suite a ((a, oe4) :: (X.pn ++ pins))) (v := .ref a) S4 hN hi (.inl hln) rfl (fun s5 S5 => ?_) (.inr hln)
      refine wpAny_mono ((hsu a oe4 cls d (X.pn ++ pins) hz4 ⟨vs4, hd4⟩).run [] s5 _ _ (outX D i) S5 (hyes rfl J3.len a na)) (fun f s6 hsp => ?_) (fun e s6 he => he.elim)
      cases f with
      | next =>
        obtain ⟨σ6, H6, S6, q6⟩ := hsp
        exact gone_ok (Inv.unsuite S6 ok) hN hi hln fun s7 J7 => ⟨_, H6, J7, q6⟩
      | brk =>
        obtain ⟨σ6, H6, S6, q6⟩ := hsp
        exact gone_ok (Inv.unsuite S6 ok) hN hi hln fun s7 J7 => ⟨_, H6, J7, q6⟩
      | cont =>
        obtain ⟨σ6, H6, S6, q6⟩ := hsp
        exact gone_ok (Inv.unsuite S6 ok) hN hi hln fun s7 J7 => ⟨_, H6, J7, q6⟩
      | ret u =>
        obtain ⟨v, σ6, H6, S6, r6, q6⟩ := hsp
        exact gone_ok (Inv.unsuite S6 ok) hN hi hln fun s7 J7 => ⟨v, _, H6, J7, r6, q6⟩
theorem ps_try_X {X : Cx} {body : List Stmt} {h₀ : ExceptHandler} {hds : List ExceptHandler} {l : List Clause} {pos : Pos} {tb : WX → TS}
    (hs : X.stack = X.env :: X.outer) (hf : X.env.frame = some X.env.locals) (hN : X.N.Nodup)
    (hb : ∀ (W : WX) (pn : List (Addr × Obj)) (xe : Value → Shared → Prop), Takes (X.tr pn xe) W → PassesOwn (model X.prog X.w) X.A X.env xe → PSs (X.tr pn xe) body (tb W))
    (hh : Hds X (h₀ :: hds) l) : PS X (Stmt.Try body (h₀ :: hds) [] [] pos) fun D σ H => tb (wMany X.K X.N.length D l) D σ H := by
  refine ⟨fun pins s σ H D I h => ?_⟩
  have ok := I.ok
  have hfr : X.A.frames = some (X.env :: X.outer) := by rw [ok.frames, hs]
  refine wpAny_Try_except (wpAny_mono ((hb (wMany X.K X.N.length D l) (X.pn ++ pins) _ (fun u s' xx => ?_) PassesOwn.looking).run [] s σ H D (Inv.toTry I _) h) (fun f s1 hsp => ?_) fun e s1 he => he)
  · obtain ⟨a, B, sI, pins', σ', H', cls, d, rfl, J', nb, up, sky, na, os, ag, w⟩ := xx
    have J := Inv.ofTry J' ok
    have sky' : Sky B (X.env :: X.outer) a (Zc cls d) X.env.locals s'.heap := by
      rw [← hs]
      exact sky
    refine Sky.land Zc.steady hfr hf sky' fun h3 fl3 up3 => ?_
    obtain ⟨oe3, vs3, he3, hz3, hd3⟩ := HandSPX.FlyingZ.there fl3
    have nfr : ¬ a ∈ List.filterMap (fun x => x.frame) (X.env :: X.outer) := fun hm => by
      obtain ⟨_, o', e', hnf⟩ := Heap.FunFrames.mem fl3.2.2.1 hm
      rw [he3] at e'
      cases e'
      exact hnf _ hd3
    have nL : a ≠ X.env.locals := fun z => nfr (List.mem_filterMap.mpr ⟨X.env, List.mem_cons_self, by rw [hf, z]⟩)
    have nF : ¬ a ∈ X.fs := fun hm => by
      obtain ⟨e, he, q⟩ := List.mem_filterMap.mp hm
      exact nfr (List.mem_filterMap.mpr ⟨e, List.mem_cons_of_mem X.env he, q⟩)
    exact handle_X (s3 := { heap := h3, gens := s'.gens, drawn := s'.drawn, toks := s'.toks, os := s'.os }) ok hN na nL nF hh fl3 (Inv.landed J nb fl3.1 (Heap.UpToSlots.trans up up3) os ag) (fun h4 fl4 up4 => Inv.landed J nb fl4.1 (Heap.UpToSlots.trans (Heap.UpToSlots.trans up up3) up4) os ag) w
  · cases f with
    | next =>
      obtain ⟨σ', H', J', q⟩ := hsp
      exact wpAny_execs_nil ⟨σ', H', Inv.ofTry J' ok, q⟩
    | brk =>
      obtain ⟨σ', H', J', q⟩ := hsp
      exact ⟨σ', H', Inv.ofTry J' ok, q⟩
    | cont =>
      obtain ⟨σ', H', J', q⟩ := hsp
      exact ⟨σ', H', Inv.ofTry J' ok, q⟩
    | ret u =>
      obtain ⟨v, σ', H', J', r, q⟩ := hsp
      exact ⟨v, σ', H', Inv.ofTry J' ok, r, q⟩
/-! ### a def read off a class of the program and called: C.m(o, ..) -/
theorem pe_cfun {X : Cx} {CX : CXT} {k : Nat} {C f : Addr} {mc : Value} {fd : FuncData} {ps : List Str} {sp : Sp} {dvs : List V} {ds : List Value} {E : XK} {x m : Str} {p apos pos : Pos} {e : Expr} {es : List Expr} {t : TA} {pl : Sem Bool}
    (F : FnOk X.prog X.w X.K X.mg X.base CX k f fd ps sp) (hr : Room k X.A) (hg : Gl X x) (hm : X.mg x = some (Value.ref C)) (r : ClX.CRead X.K C mc)
    (hv : PySem.W.findCls X.K (Value.ref C) mc m = some (PySem.W.CFound.val (Value.ref f))) (hk : PySem.W.keepIn X.K (Value.ref f) = true) (hb : L2.Binds X.K fd ps ds) (hd : Vals dvs ds) (hx : Passes CX X E) (ha : PA X (e :: es) t)
    (hdb : (x == Str.ofString "__debug__") = false := by rfl)
    (hst : starEach (e :: es) X.env = (false, eval e X.env) :: starEach es X.env := by rfl)
    (hpl : ((backTo pos (starEach es X.env)).any fun x => x.fst) = false := by rfl)
    (ht : eval (((Expr.Name x p).Attribute m apos).Call (e :: es) [] pos) X.env = (do
        let ov ← eval (Expr.Name x p) X.env
        standAt apos.atName
        let __x ← holding [ov] (getMethod ov m pl)
        match __x with
        | (f, first) => callWith pos f first (backTo pos (starEach (e :: es) X.env)) (backToKw pos (keywordEach [] X.env))) := by rfl) :
    PE X (((Expr.Name x p).Attribute m apos).Call (e :: es) [] pos) (tCall sp dvs E t) := by
  refine ⟨fun pins s σ H Q I h => ?_⟩
  refine PySem.W.methodCall_KW (ld_glob I hg hm ?_ hdb) ht
  refine PySem.W.method_cls (Inv.kIn I) r.ga (PySem.W.cls_value (Inv.kIn I) r.rd hv rfl ?_)
  have I1 := Inv.tok I (s.toks + 1)
  refine PySem.W.callWith_K I.ok.mod.kin hk ?_ hst hpl
  refine thn (ha.run pos pins _ σ H (fun vs H1 => sp (vs ++ dvs) H1 Q E) I1 h) fun us s1 z => ?_
  obtain ⟨vs, H1, I2, rv, q⟩ := z
  exact ⟨Inv.kIn I2, run_fn F hr hb hd hx I2 rv q⟩
end OGX

set_option Elab.async false
set_option linter.all false
set_option maxRecDepth 100000
set_option maxHeartbeats 4000000
namespace OGX
open PySem PySem.Spec PyProof.Rows L2 OG L2H
/-! ### a def called in an except suite: its promise is told of the exception that is handled -/
abbrev SpX := Addr → Value → Option Addr → Sp
structure FnX (P : Program) (w : World) (K : PySem.W.Frag) (mg : Str → Option Value) (base : Heap) (k : Nat) (f : Addr) (fd : FuncData) (ps : List Str) (sp : SpX) : Prop where
  len : ∀ a cls d vs H Q E, sp a cls d vs H Q E → vs.length = ps.length
  run : ∀ (A : Around) (outer : List Env) (s : Shared) (H : Hp) (args : Args) (us : List Value) (vs : List V) (Q : VK) (E : XK) (a : Addr) (oe : Obj) (cls : Value) (d : Option Addr), RoomH k A → Zc cls d oe → (∃ vs, oe.data = Data.fields vs) → PinOk outer H s (a, oe) → Env0 P w K mg base A outer s H → BindsTo s fd args (ps.zip us) → Vals vs us → sp a cls d vs H Q E →
    codeAny (model P w) A (.call (.ref f) args) (CR C8.CX0 outer P w H s Q E) s
theorem fn_ofX {P : Program} {w : World} {K : PySem.W.Frag} {mg : Str → Option Value} {base : Heap} {k : Nat} {f : Addr} {name qual : Str} {params : Arguments} {body : List Stmt} {scope : Scope} {dV kV doc pm cdv ct oc : Value} {an od : Option Addr}
    {osl : Array (Option Value)} {N ps : List Str} {sp : SpX} (lk : K.lookup f = some ⟨oc, od, .func (PySem.W.fnOf name qual params body scope dV kV doc pm an cdv ct), osl⟩) (hcd : PySem.W.codeIn K cdv qual = true) (S : FnScope N ps scope)
    (len : ∀ a cls d vs H Q E, sp a cls d vs H Q E → vs.length = ps.length)
    (hbody : ∀ (A : Around) (outer : List Env) (s : Shared) (H : Hp) (vs : List V) (Q : VK) (E : XK) (a : Addr) (oe : Obj) (cls : Value) (d : Option Addr), Zc cls d oe → (∃ vs, oe.data = Data.fields vs) → RoomH k (A.deeper (envOfC qual scope s.heap.objs.size f cdv)) → sp a cls d vs H Q E →
      ∃ t, PSs (cxH C8.CX0 P w K mg base N qual scope f cdv A outer s H E (a, oe)) body t ∧ t { nx := fun _ H' => Q .non H', rt := Q } (L2.start N vs) H) :
    FnX P w K mg base (k + 1) f (PySem.W.fnOf name qual params body scope dV kV doc pm an cdv ct) ps sp := by
  constructor
  · exact len
  intro A outer s H args us vs Q E a oe cls d room isZ isF pin around bound vals told
  have stays : ∀ {b : Addr} {o : Obj}, base.get? b = some o → s.heap.get? b = some o := fun {b o} z => (around.bs b o z).1
  have written : K.In s.heap := around.mod.kin.keeps fun _ _ z => stays z
  have kinds : ∀ y ∈ ps.zip us, scope.names.lookup y.1 = some .local ∨ (scope.names.lookup y.1 = some .cell ∧ ((cellsFrom (s.heap.objs.size + 1) scope.names []).lookup y.1).isSome = true) := by
    intro y hy
    have := S.par y.1 (List.of_mem_zip (a := y.1) (b := y.2) hy).1
    exact this.imp id fun z => And.intro z (PySem.W.cellsFrom_some _ _ _ (.inl z))
  refine codeAny_call_function room.depth (written _ _ lk) rfl S.co S.gen rfl (PySem.W.codeRec_of written hcd) (bound _ _ _ _ (wpAny_newFunctionEnv_cells S.kind kinds ?_))
  rintro env rfl s1 inside
  refine ⟨(around.mod.nolimit.keeps fun _ _ z => stays z).keeps inside.toInCall.keep, codeAny_func ?_⟩
  obtain ⟨reading, rule, holds⟩ := hbody A outer s H vs Q E a oe cls d isZ isF (room.deeper _) told
  have J0 := inv_startH (CX := C8.CX0) (E := E) S pin around (len _ _ _ _ _ _ _ told) vals inside
  have ran := rule.run [] s1 _ H _ J0 holds
  refine wpAny_mono ran ?_ fun _ _ z => z
  rintro (_ | _ | _ | u) s' ends
  all_goals first
    | (obtain ⟨v, σ', H', J, rv, z⟩ := ends; exact ⟨v, H', J.os, J.bare, J.base, J.hok, rv, z⟩)
    | (obtain ⟨σ', H', J, z⟩ := ends; exact ⟨V.non, H', J.os, J.bare, J.base, J.hok, rfl, z⟩)
    | (obtain ⟨_, _, _, z⟩ := ends; exact False.elim z)
def tCallX (sp : SpX) (a : Addr) (cls : Value) (d : Option Addr) (t : TA) : TE := fun σ H Q => t σ H fun vs H1 => sp a cls d vs H1 Q (fun _ _ _ => False)
section
variable {X : Cx} {k : Nat} {f a : Addr} {oe : Obj} {cls : Value} {d : Option Addr} {pn : List (Addr × Obj)} {fd : FuncData} {ps : List Str} {sp : SpX} {x : Str} {q pos : Pos} {e : Expr} {es : List Expr} {t : TA}
theorem pe_callX (F : FnX X.prog X.w X.K X.mg X.base k f fd ps sp) (hr : RoomH k X.A) (hz : Zc cls d oe) (hf : ∃ vs, oe.data = Data.fields vs) (hg : Gl X x) (hm : X.mg x = some (.ref f)) (hk : PySem.W.keepIn X.K (.ref f) = true) (hb : L2.Binds X.K fd ps [])
    (ha : PA (X.suite a ((a, oe) :: pn)) (e :: es) t) (hdb : (x == ("__debug__" : Str)) = false := by decide) (he : starEach (e :: es) X.env = (false, eval e X.env) :: starEach es X.env := by rfl) (hpl : (backTo pos (starEach es X.env)).any (·.1) = false := by rfl) :
    PE (X.suite a ((a, oe) :: pn)) (.Call (.Name x q) (e :: es) [] pos) (tCallX sp a cls d t) := by
  refine ⟨fun pins s σ H Q I h => ?_⟩
  refine wpAny_Call_Name_kw (ld_glob (X := X.suite a ((a, oe) :: pn)) I hg hm ?_ hdb)
  refine PySem.W.callWith_K (h₀ := X.base) I.ok.mod.kin hk (thn (ha.run pos pins s σ H _ I h) fun us s1 ⟨vs, H1, I1, r, q⟩ => ⟨I1.kIn, ?_⟩) he hpl
  have hl : us.length = ps.length := by rw [← r.length]; exact F.len _ _ _ _ _ _ _ q
  have b := hb s1 us I1.kIn (by rw [List.append_nil]; exact hl)
  rw [List.append_nil] at b
  have P1 := I1.pin (a, oe) (List.mem_append_left _ List.mem_cons_self)
  have hpin : PinOk X.stack H1 s1 (a, oe) := ⟨P1.1, P1.2.1, fun hm => (List.mem_cons.mp (I1.stkSub a hm)).elim P1.2.2.1 P1.2.2.2.1, P1.2.2.2.2⟩
  refine wpAny_call (codeAny_mono (F.run (X.suite a ((a, oe) :: pn)).A X.stack s1 H1 ⟨us, []⟩ us vs Q (fun _ _ _ => False) a oe cls d ⟨hr.dp, hr.un⟩ hz hf hpin I1.env0 b r q) fun r s' hq => ?_)
  cases r with
  | error e => exact (show False from hq).elim
  | ok fl =>
    cases fl with
    | ret u => exact I1.after hq
    | next => exact False.elim hq
    | brk => exact False.elim hq
    | cont => exact False.elim hq
end
/-! ### isinstance of an exception that has fields; its fields -/
def rIsX (K : PySem.W.Frag) (a : Addr) (cls : Value) (d : Option Addr) : List V → Hp → VK → Prop := fun xs H Q => ∃ (D dd : Addr) (fs : List (Str × V)) (c : V) (cv : Value) (b : Bool), xs = [.ref a, c] ∧ cls = .ref D ∧ d = some dd ∧ ExcC K D ∧ H dd = some (.xd fs) ∧ (∀ u, RelV c u → u = cv) ∧ PySem.W.kitOne K (.ref D) cv = some b ∧ Q (.bl b) H
section
variable {X : Cx} {a : Addr} {oe : Obj} {cls : Value} {d : Option Addr}
theorem call_isX (hp : (a, oe) ∈ X.pn) (hz : Zc cls d oe) (hf : ∃ vs, oe.data = .fields vs) : CallR X (.builtin "isinstance") (rIsX X.K a cls d) := by
  intro pins s σ H xs us Q I r h
  obtain ⟨D, dd, fs, c, cv, b, rfl, rfl, rfl, C, ea, hcv, e, q⟩ := h
  cases r with
  | cons rx rr =>
    cases rr with
    | cons rt rr =>
      cases rr
      cases rx
      have ec := hcv _ rt
      subst ec
      obtain ⟨hget, _⟩ := I.pin (a, oe) (List.mem_append.mpr (.inl hp))
      obtain ⟨vs, hv⟩ := hf
      have hx : ObjOk X.prog X.w H s.heap dd (.xd fs) := I.hok dd _ ea
      obtain ⟨mA, hns, hr⟩ := hx
      obtain ⟨od, ho, hl⟩ := lookIn_ns hns
      have J : PySem.W.InstAt s.heap a oe D (some od) := ⟨hget, hz.1, by unfold PySem.W.notCls; rw [hv] <;> rfl, by rw [hz.2]; exact ho⟩
      have hcl : (PySem.W.clsIn X.K D).isSome = true := by
        have hd := C.hd
        unfold PySem.W.hasDictIn at hd
        cases hc : PySem.W.clsIn X.K D with
        | none => rw [hc] at hd; cases hd
        | some _ => rfl
      exact PySem.W.kia_one (PySem.W.kitx_exc hcl C.hg C.hk C.hs C.ha C.hn C.ht C.hm) I.kIn J e (fun z => nomatch z) fun tk => ⟨.bl b, H, I.kept (t' := tk) fun _ _ z => z, rfl, q⟩
theorem pe_xfX {C : Addr} {e : Expr} {te : TE} {pos : Pos} {n : Str} (hp : (a, oe) ∈ X.pn) (T : XfC X.K C) (hno : PySem.W.findIn X.K (.ref C) n = some none) (hz : Zc cls d oe) (hf : ∃ vs, oe.data = .fields vs) (he : PE X e te)
    (hb : attributeBase e n X.env (eval e X.env) = eval e X.env := by rfl) : PE X (.Attribute e n pos) (tXf a cls d C n te) := by
  have field : ∀ {pins : List (Addr × Obj)} {s1 : Shared} {σ : L2.St} {H1 : Hp} {Q : VK} {dd : Addr} {fs : List (Str × V)} {v : V}, L2.Inv X pins σ H1 s1 → H1 dd = some (.xd fs) → fs.lookup n = some v → Zc (.ref C) (some dd) oe → Q v H1 →
      wpAny (model X.prog X.w) X.A (getAttr (.ref a) n true) (EP X pins σ Q) X.xe s1 := fun {pins s1 σ H1 Q dd fs v} J1 hdd hlk hzz hq => by
    obtain ⟨fvs, hfv⟩ := hf
    have there := (J1.pin (a, oe) (List.mem_append_left _ hp)).1
    have dct : ObjOk X.prog X.w H1 s1.heap dd (.xd fs) := J1.hok dd _ hdd
    obtain ⟨names, isNs, told⟩ := dct
    obtain ⟨dobj, dget, dlook⟩ := lookIn_ns isNs
    have rel := told n
    rw [hlk] at rel
    obtain ⟨fval, hfval, rfval⟩ := RelO.some_of rel
    have inst : PySem.W.InstAt s1.heap a oe C (some dobj) := ⟨there, hzz.1, (by unfold PySem.W.notCls; rw [hfv]), (by rw [hzz.2]; exact dget)⟩
    have found : PySem.W.findObj X.K C (some dobj) n = some (.value fval) := PySem.W.findObj_own T.hdC hno rfl (by rw [dlook n, hfval])
    exact HandSPX.exc_get J1.kIn inst T.ga T.gg T.exC found (handed_of rfval) ⟨v, H1, J1.tok _, rfval, hq⟩
  constructor
  intro pins s σ H Q I h
  have base := he.run pins s σ H _ I h
  refine attr_of hb (thn base ?_)
  rintro u s1 ⟨x, H1, J1, rx, rfl, rfl, dd, fs, v, rfl, hdd, hlk, hq⟩
  cases rx
  exact field J1 hdd hlk hz hq
end
end OGX

set_option Elab.async false
set_option linter.all false
set_option maxRecDepth 100000
set_option maxHeartbeats 4000000
namespace OGX
open PySem PySem.Spec PyProof.Rows L2 OG
/-! ### an exception of the program's own, made with no argument: C() -/
/-- what its __init__ must promise -/
def tMk0 (C : Addr) (sp : Sp) : L2.St → Hp → XK → Prop := fun _ H Q => ∀ a, H a = none → sp [.ref a] (upd H a (exo a C none))
  (fun v G => v = .non ∧ ∃ (dd : Addr) (fl : List (Str × V)), G a = some (exo a C (some dd)) ∧ G dd = some (exd dd fl) ∧ H dd = none ∧ Q (.ref C) (some dd) (upd (del G a) dd (.xd fl))) (fun _ _ _ => False)
theorem pmk_oex0 {X : Cx} {CX : CXT} {x : Str} {C g : Addr} {k : Nat} {fd : FuncData} {sp : Sp} {p pos : Pos} (cl : OexC X.K C) (ini : PySem.W.findIn X.K (.ref C) "__init__" = some (some (.ref g))) (isf : PySem.W.typeIn X.K (.ref g) = some (.type "function"))
    (ok : FnOk X.prog X.w X.K X.mg X.base CX k g fd ["self"] sp) (room : Room (k + 1) X.A) (bd : L2.Binds X.K fd ["self"] []) (pass : Passes CX X (fun _ _ _ => False)) (gl : Gl X x) (at_ : X.mg x = some (.ref C)) (nd : (x == ("__debug__" : Str)) = false := by decide) :
    PMk X (.Call (.Name x p) [] [] pos) (tMk0 C sp) := by
  intro pins s0 σ H Q inv told
  obtain ⟨_, _, _, _, bm, _, _, _, _, _, _, _, _, _, _, isC, refs⟩ := cl.cls
  refine wpAny_Call_Name_kw (ld_glob inv gl at_ ?_ nd)
  refine PySem.W.callWith_K0 inv.kIn cl.kC ?_
  obtain ⟨hh, gn, dw, tk, oss⟩ := s0
  let top : Addr := hh.objs.size + 1
  let grown : Heap := (hh.push (PySem.W.kdv_tup [])).push (PySem.HandSPX.excO C hh.objs.size)
  have above : hh.objs.size ≤ top := Nat.le_succ _
  have free : H top = none := inv.hok.fresh above
  have mine := told top free
  have keeps : ∀ b o, hh.get? b = some o → grown.get? b = some o := fun b o z => by
    have z1 := Heap.get?_push_of_some (PySem.W.kdv_tup []) z
    exact Heap.get?_push_of_some _ z1
  have there : grown.get? top = some (PySem.HandSPX.excO C hh.objs.size) := by
    show ((hh.push (PySem.W.kdv_tup [])).push (PySem.HandSPX.excO C hh.objs.size)).get? (hh.objs.size + 1) = _
    heap_get
  have inv2 : L2.Inv X pins σ (upd H top (exo top C none)) ⟨grown, gn, dw, tk, oss⟩ := inv.laid (t' := tk) (h' := grown) keeps above (exo_ok there)
  have vals : Vals [V.ref top] [Value.ref top] := .cons rfl .nil
  have one : ([Value.ref top] ++ ([] : List Value)).length = ["self"].length := rfl
  have bound := bd _ [Value.ref top] inv2.kIn one
  have ran := ok.run _ X.stack _ _ ⟨[Value.ref top], []⟩ [Value.ref top] [V.ref top] _ (fun _ _ _ => False) (room.make C [] []) (inv2.env0.make C [] []) bound vals mine
  show wpAny _ _ (call (.ref C) []) _ _ _
  have few : ([] : List Value).length ≤ sizeLine := Nat.zero_le _
  refine wpAny_call (PySem.HandSPX.call_own F.excBase_ValueError (fun Y => PySem.HandSPX.refsVE_contains Y bm refs) (inv.kIn _ _ isC) (PySem.W.looks_findIn inv.kIn ini) (fun me => PySem.W.bind_fn inv.kIn me isf) few (codeAny_mono ran ?_))
  rintro (er | fl) s' ends
  · exact pass pins σ _ _ er s' inv2 ends
  · cases fl with
    | ret u =>
      obtain ⟨v, G, os2, bare, un, hok, rel, rfl, dd, fs, h1, h2, h3, h4⟩ := ends
      obtain ⟨_, _, _, _, _⟩ := s'
      exact ⟨rel, mk_end (raises_own cl.exC cl.tyC) inv above keeps un hok os2 bare h1 h2 h3 h4⟩
    | next => exact absurd ends id
    | brk => exact absurd ends id
    | cont => exact absurd ends id
end OGX

set_option Elab.async false
set_option linter.all false
set_option maxRecDepth 100000
set_option maxHeartbeats 4000000
namespace OG
open PySem PySem.Spec PyProof.Rows L2
section
variable {X : Cx}
/-- list(d) of a dict with tuple keys -/
def rListDictT : List V → Hp → VK → Prop := fun xs H Q => ∃ d kvs, xs = [.ref d] ∧ H d = some (.dT kvs) ∧ ∀ q bs, H q = none → IsKeys H kvs bs → Q (.ref q) (upd H q (.lst (bs.map V.ref)))
theorem cr_listDictT (calm : X.calm = true) : CallR X (.type "list") rListDictT := by
  intro pins sh vars H xs us Q inv rel ask
  obtain ⟨d, kvs, rfl, at', wish⟩ := ask
  obtain ⟨u, rfl, ru⟩ := rel.one
  cases ru
  obtain ⟨most, lo, ks, pr, o, es, ep, here, ex, dt, ents, nd⟩ := (show ObjOk X.prog X.w H sh.heap d (.dT kvs) from inv.hok d _ at')
  have l1 : es.size = ks.length := size_of_entries ents
  have l2 : kvs.length = ks.length := Paired.length pr
  refine PySem.W.kdl_call (PySem.KdlSrc.rawDict (d := d) (es := es) (ep := ep) lo) (inv.ok.hd calm) ⟨o, here, ex, dt⟩ (by omega) fun hp tk acc c kept own its => ?_
  have got : acc.toList = (ks.map fun t => t.2.1).map Value.ref := keys_gathered ents ⟨its.1, fun i v at'' => have ⟨lt, e⟩ := its.2 i v at''; ⟨_, Array.getElem?_eq_getElem lt, e⟩⟩
  have rv : Vals ((ks.map fun x => x.2.1).map V.ref) acc.toList := got ▸ vals_refs _
  have short : ((ks.map fun x => x.2.1).map V.ref).length ≤ sizeLine := by rw [List.length_map, List.length_map]; omega
  refine ⟨.ref sh.heap.objs.size, _, inv.laid (t' := tk) (o := .lst ((ks.map fun x => x.2.1).map V.ref)) kept (Nat.le_refl _) ?_, rfl, wish _ _ (inv.hok.fresh (Nat.le_refl _)) (isKeys_of pr)⟩
  exact ⟨short, acc.toList, c, rv, by rw [Array.toArray_toList]; exact own⟩
end
/-! ### answers are told by what they say -/
theorem settled_uniq {G : Int → Int} {s s' z z' : Int} (h : Settled G s z) (h' : Settled G s' z') : s = s' ∧ z = z' := by
  obtain ⟨a0, a1, a2⟩ := h
  obtain ⟨b0, b1, b2⟩ := h'
  have es : s = s' := by
    rw [← a1 (max z z') (by omega), ← b1 (max z z') (by omega)]
  subst es
  refine ⟨rfl, ?_⟩
  rcases Int.lt_trichotomy z z' with c | c | c
  · exact absurd (a1 (z' - 1) (by omega)) (b2 (by omega))
  · exact c
  · exact absurd (b1 (z - 1) (by omega)) (a2 (by omega))
theorem Settled.congr {G G' : Int → Int} {s z : Int} (h : Settled G s z) (e : ∀ n, 0 ≤ n → sgX (G' n) = sgX (G n)) : Settled G' s z := by
  obtain ⟨a0, a1, a2⟩ := h
  refine ⟨a0, fun n hn => ?_, fun hp => ?_⟩
  · rw [e n (by omega)]
    exact a1 n hn
  · rw [e (z - 1) (by omega)]
    exact a2 hp
theorem sgX_negI (x : Int) : sgX (-x) = -sgX x := by
  rcases sgX_cases x with ⟨a1, a2⟩ | ⟨a1, a2⟩ | ⟨a1, a2⟩ <;> rcases sgX_cases (-x) with ⟨b1, b2⟩ | ⟨b1, b2⟩ | ⟨b1, b2⟩ <;> rw [a2, b2] <;> omega
theorem Settled.neg {G G' : Int → Int} {s z : Int} (h : Settled G s z) (e : ∀ n, 0 ≤ n → sgX (G' n) = - sgX (G n)) : Settled G' (-s) z := by
  obtain ⟨a0, a1, a2⟩ := h
  refine ⟨a0, fun n hn => ?_, fun hp => ?_⟩
  · rw [e n (by omega), a1 n hn]
  · rw [e (z - 1) (by omega)]
    have := a2 hp
    omega
/-- of three: which is more, and from when on at the latest -/
theorem Settled.three {Gab Gbc Gac : Int → Int} {s zab zbc sac zac : Int} (h1 : Settled Gab s zab) (h2 : Settled Gbc s zbc) (h3 : Settled Gac sac zac) (e : ∀ n, 0 ≤ n → sgX (Gab n) = s → sgX (Gbc n) = s → sgX (Gac n) = s) : sac = s ∧ zac ≤ max zab zbc := by
  obtain ⟨a0, a1, a2⟩ := h1
  obtain ⟨b0, b1, b2⟩ := h2
  obtain ⟨c0, c1, c2⟩ := h3
  have all : ∀ n, max zab zbc ≤ n → sgX (Gac n) = s := fun n hn => e n (by omega) (a1 n (by omega)) (b1 n (by omega))
  have es : sac = s := by
    rw [← c1 (max zac (max zab zbc)) (by omega)]
    exact all _ (by omega)
  subst es
  refine ⟨rfl, Int.not_lt.mp fun z => ?_⟩
  exact c2 (by omega) (all (zac - 1) (by omega))
theorem dif2_three {rs1 rs2 rs3 : List Row} (h1 : ROk rs1) (h2 : ROk rs2) (h3 : ROk rs3) {n s : Int} (e1 : sgX (dif2 rs1 rs2 n) = s) (e2 : sgX (dif2 rs2 rs3 n) = s) : sgX (dif2 rs1 rs3 n) = s := by
  have u1 := (worth_under h1 n).1
  have u2 := (worth_under h2 n).1
  have u3 := (worth_under h3 n).1
  unfold dif2 at *
  generalize worthOf rs1 n = x at *
  generalize worthOf rs2 n = y at *
  generalize worthOf rs3 n = w at *
  -- y.2 (x.1 w.2 - w.1 x.2) = w.2 (x.1 y.2 - y.1 x.2) + x.2 (y.1 w.2 - w.1 y.2)
  have key : y.2 * (x.1 * w.2 - w.1 * x.2) = w.2 * (x.1 * y.2 - y.1 * x.2) + x.2 * (y.1 * w.2 - w.1 * y.2) := by grind
  rw [← sgX_mul (k := y.2) (by omega), key]
  have m1 := sgX_mul (k := w.2) (x := x.1 * y.2 - y.1 * x.2) (by omega)
  have m2 := sgX_mul (k := x.2) (x := y.1 * w.2 - w.1 * y.2) (by omega)
  rw [e1] at m1
  rw [e2] at m2
  generalize w.2 * (x.1 * y.2 - y.1 * x.2) = a at m1
  generalize x.2 * (y.1 * w.2 - w.1 * y.2) = b at m2
  rcases sgX_cases a with ⟨a1, a2⟩ | ⟨a1, a2⟩ | ⟨a1, a2⟩ <;> rcases sgX_cases b with ⟨b1, b2⟩ | ⟨b1, b2⟩ | ⟨b1, b2⟩ <;> rcases sgX_cases (a + b) with ⟨c1, c2⟩ | ⟨c1, c2⟩ | ⟨c1, c2⟩ <;> rw [c2] <;> omega
theorem dif2_self (rs : List Row) (n : Int) : dif2 rs rs n = 0 := by
  unfold dif2
  omega
/-! ### rows that are drawn -/
theorem ktf_of {top deep wide : Int} {ts : List Term} (h : ∀ t ∈ ts, TermOk top deep wide t) (h9 : top ≤ 9) (d9 : deep ≤ 9) (hl : ts.length ≤ 8) (hf : Falls ts) : KTF (2 * wide.toNat) ts := by
  have hb : ∀ t ∈ ts, LowU t ∧ v2 t.2 ≠ 0 ∧ (v2 t.2).natAbs ≤ 2 * wide.toNat := fun t ht => by
    have k := h t ht
    have u0 := k.u0
    have u1 := k.u1
    have nz := k.nz
    have o1 := k.o1
    have hu : t.2.2 = 1 ∨ t.2.2 = 2 := by omega
    refine ⟨hu, ?_⟩
    unfold v2
    rcases hu with e | e <;> rw [e]
    · show t.2.1 * 2 ≠ 0 ∧ (t.2.1 * 2).natAbs ≤ 2 * wide.toNat
      omega
    · show t.2.1 * 1 ≠ 0 ∧ (t.2.1 * 1).natAbs ≤ 2 * wide.toNat
      omega
  refine ⟨⟨fun t ht => (hb t ht).1, ?_, fun t ht => ?_, fun t ht e => absurd e (hb t ht).2.1⟩, hl, fun t ht => (hb t ht).2.2⟩
  · refine List.pairwise_map.mpr (hf.imp fun {x y} hxy e => ?_)
    have := SrtO.lexB_iff.mp hxy
    rw [e] at this
    omega
  · have k := h t ht
    exact ⟨k.p0, by have := k.p1; omega, k.f0, by have := k.f1; omega⟩
theorem rowsF_of {top deep wide : Int} {rs : List Row} (h : RowsOk top deep wide rs) (h9 : top ≤ 9) (d9 : deep ≤ 9) (hw : wide < 2 ^ 100) : RowsF (2 * wide.toNat) 6 rs := by
  refine ⟨rows_rok h h9 d9 hw, fun r hr => ?_, fun r hr => ?_⟩
  · obtain ⟨a, b, c⟩ := h.terms r hr
    exact ktf_of a h9 d9 (by omega) c
  · have := h.since r hr
    have e6 : (2 : Int) ^ 6 = 64 := by decide
    omega
theorem tame_of {A S : Nat} {rs1 rs2 : List Row} (h1 : RowsF A S rs1) (h2 : RowsF A S rs2) (hA : 18 * A < 2 ^ 61) (hS : S ≤ 59) : ∀ sts, StsRel rs1 rs2 sts → Tame sts := fun sts hrel ini sl est => by
  have hslm : sl ∈ sts := by rw [est]; exact List.mem_append_right _ List.mem_cons_self
  obtain ⟨_, _, polys, _⟩ := stOfF_facts h1 h2 (hrel.of sl hslm)
  refine ⟨fun _ => ?_, fun p0 r esl f hf => ?_⟩
  · have := ((hrel.facts h1 h2).2.1 sl hslm).2
    have := pow2_le (i := S) (j := 59) hS
    omega
  · have hp0 : p0 ∈ sl.2 := by rw [esl]; exact List.mem_cons_self
    obtain ⟨ne, _, tr, cf⟩ := polys p0 hp0
    exact (lead_last (B := 61) tr ne fun c hc => by have := cf c hc; omega).2 f hf
/-- a falling row of terms -/
theorem sorted_exists {ds : List Term} (m : Int) (nd : (ds.map (·.1)).Nodup) (z : ∀ t ∈ ds, 0 ≤ t.1.1 ∧ 0 ≤ t.1.2) : ∃ ts : List Term, ts.Perm ds ∧ (ts.map (monoOf m)).Pairwise lexD := by
  refine ⟨ds.mergeSort fun a b => !SrtO.lexB a.1 b.1, List.mergeSort_perm _ _, ?_⟩
  have h1 := List.pairwise_mergeSort (le := fun a b : Term => !SrtO.lexB a.1 b.1) (fun a b c hab hbc => by
    have x : SrtO.lexB a.1 b.1 = false := by simpa using hab
    have y : SrtO.lexB b.1 c.1 = false := by simpa using hbc
    have x' := SrtO.lexB_no.mp x
    have y' := SrtO.lexB_no.mp y
    have : SrtO.lexB a.1 c.1 = false := SrtO.lexB_no.mpr (by omega)
    rw [this]
    rfl) (fun a b => by
    by_cases h : SrtO.lexB a.1 b.1 = true
    · have x := SrtO.lexB_iff.mp h
      have : SrtO.lexB b.1 a.1 = false := SrtO.lexB_no.mpr (by omega)
      rw [this, h]
      rfl
    · have : SrtO.lexB a.1 b.1 = false := by simpa using h
      rw [this]
      rfl) ds
  have h2 : ((ds.mergeSort fun a b => !SrtO.lexB a.1 b.1).map (·.1)).Nodup := ((List.mergeSort_perm ds _).map _).nodup_iff.mpr nd
  refine List.pairwise_map.mpr ((h1.and (List.pairwise_map.mp h2)).imp_of_mem fun {x y} hx hy h => ?_)
  obtain ⟨a, b⟩ := h
  have a' : SrtO.lexB x.1 y.1 = false := by simpa using a
  have n := SrtO.lexB_no.mp a'
  have ne : ¬ (x.1.1 = y.1.1 ∧ x.1.2 = y.1.2) := fun w => b (Prod.ext w.1 w.2)
  have zx := z x (List.mem_mergeSort.mp hx)
  have zy := z y (List.mem_mergeSort.mp hy)
  show y.1.1.toNat < x.1.1.toNat ∨ (y.1.1.toNat = x.1.1.toNat ∧ y.1.2.toNat < x.1.2.toNat)
  omega
/-- sums of small parts are settled at some thousand figures -/
theorem no_far {A S : Nat} {rs1 rs2 : List Row} (h1 : RowsF A S rs1) (h2 : RowsF A S rs2) (hA : 18 * A < 1500) (hS : S ≤ 100) : ∃ s, ∀ n, 0 ≤ n → 2000 < figs n → sgX (dif2 rs1 rs2 n) = s := by
  have kt1 := h1.ts (2 ^ 100)
  have kt2 := h2.ts (2 ^ 100)
  obtain ⟨ok, nz, val, sm, len⟩ := lessF_facts kt1 kt2
  obtain ⟨ts, hp, hf⟩ := sorted_exists 2 ok.apart fun t ht => ⟨(ok.keys t ht).1, (ok.keys t ht).2.2.1⟩
  have hst : StOfF rs1 rs2 (2 ^ 100) (grp (ts.map (monoOf 2))) := ⟨2, ts, rfl, .inr rfl, fun t ht => by
    rcases ok.low t ht with e | e <;> rw [e] <;> decide, hp, hf⟩
  obtain ⟨pf, few, polys, m, m0, hv⟩ := stOfF_facts h1 h2 hst
  generalize grp (ts.map (monoOf 2)) = pw at *
  have stay : ∀ {rs : List Row}, RowsF A S rs → ∀ n : Int, 2 ^ 100 ≤ n → rowTs rs n = rowTs rs (2 ^ 100) := fun {rs} h n hn => rowTs_stay hn fun r hr _ => by
    have a := (h.small r hr).2
    have b := pow2_le (i := S) (j := 100) hS
    omega
  have big : ∀ n : Int, 0 ≤ n → 2000 < figs n → 2 ^ 100 ≤ n := fun n n0 hn => by
    have np : 0 < n := by
      refine Int.not_le.mp fun z => ?_
      rw [show n = 0 by omega, figs_zero] at hn
      omega
    have g := (figs_ge np).1
    have := pow2_le (i := 100) (j := figs n - 1) (by omega)
    omega
  have sg : ∀ n : Int, 0 ≤ n → 2000 < figs n → sgX (dif2 rs1 rs2 n) = sgX (pwEv pw (figs n) n) := fun n n0 hn => by
    rw [dif2_signF (h1.ts n).ok.low (h2.ts n).ok.low, stay h1 n (big n n0 hn), stay h2 n (big n n0 hn)]
    have := hv (figs n) n
    rw [← sgX_mul (k := m) m0, ← this, sgX_mul (by decide)]
  cases hpw : pw with
  | nil =>
    refine ⟨0, fun n n0 hn => ?_⟩
    rw [sg n n0 hn, hpw]
    rfl
  | cons p0 r =>
    have cf : ∀ p ∈ pw, Cf 122 p.2 := fun p hp c hc => by
      have := (polys p hp).2.2.2 c hc
      have e : (1500 : Nat) < 2 ^ 122 := by decide
      omega
    have hp0 : p0 ∈ pw := by rw [hpw]; exact List.mem_cons_self
    obtain ⟨ne, _, tr, c18⟩ := polys p0 hp0
    obtain ⟨q, c, ep, hc⟩ := trim_last tr ne
    refine ⟨sgX c, fun n n0 hn => ?_⟩
    have lead : sgX (ev p0.2 (figs n)) = sgX c := by
      rw [ep]
      refine ev_lead (B := 1500) (by decide) (by omega) (fun d hd => ?_) hc
      have := c18 d (by rw [ep]; exact List.mem_append_left _ hd)
      omega
    have may : MayLow (2 ^ 100, pw) 230 := by
      have d9 := deep_le (pw := pw) fun p hp => (polys p hp).2.1
      have f101 : figs ((2 : Int) ^ 100) ≤ 101 := figs_le_of (by decide) (by decide)
      refine ⟨?_, ?_⟩
      · unfold leastOf
        show max (max 1 (2 * (deepOf pw : Int))) ((figs ((2 : Int) ^ 100) : Int) + 1) ≤ 230
        omega
      · show (figs (wtA (pw.drop 1) 230) : Int) < 230
        have b := wtA_bits (B := 122) (x := 230) (by decide) (by decide) (r := pw.drop 1) fun p hp => ⟨cf p (List.mem_of_mem_drop hp), (polys p (List.mem_of_mem_drop hp)).2.1⟩
        have l16 : (pw.drop 1).length ≤ 16 := by
          rw [List.length_drop]
          omega
        have pp : (0 : Int) < 2 ^ (122 + 90) := Int.pow_pos (by decide)
        have mm : ((pw.drop 1).length : Int) * 2 ^ (122 + 90) ≤ 16 * 2 ^ (122 + 90) := Int.mul_le_mul_of_nonneg_right (by omega) (Int.le_of_lt pp)
        have e217 : (2 : Int) ^ 217 = 32 * 2 ^ (122 + 90) := by decide +kernel
        have f := figs_le_of (n := wtA (pw.drop 1) 230) (k := 217) (wtA_nn (by decide) _) (by omega)
        omega
    have m' := may.mono (g := (figs n : Int)) (by omega)
    obtain ⟨w1, w2, _⟩ := m'.wt rfl n0
    rw [sg n n0 hn, hpw]
    have w1' : wtA r (figs n) < n := by
      have : (((2 : Int) ^ 100, pw).2.drop 1) = r := by rw [hpw]; rfl
      rw [this] at w1
      exact w1
    have hfl := pf.falls
    rw [hpw] at hfl
    rw [lead_sign hfl w2 (Int.lt_of_le_of_lt (wt_le_wtA (by omega) r) w1') fun z => hc (sgX_eq_zero.mp (by rw [← lead, z]; rfl))]
    exact lead
end OG
namespace OG
open PySem PySem.Spec PyProof.Rows L2
/-! ### all parts times a number -/
def scT (b : Int) (t : Term) : Term := (t.1, lowOf (t.2.1 * b) t.2.2)
def scR (b : Int) (rs : List Row) : List Row := rs.map fun r => (r.1, r.2.map (scT b))
theorem sc_part {b o u : Int} (hu : u = 1 ∨ u = 2) : ((lowOf (o * b) u).2 = 1 ∨ (lowOf (o * b) u).2 = 2) ∧ v2 (lowOf (o * b) u) = b * v2 (o, u) := by
  have h1 : 1 ≤ u := by omega
  obtain ⟨g1, a1, a2, a3, a4⟩ := low_facts (o := o * b) h1
  have cr := low_cross (o := o * b) h1
  have le := (low_le (o := o * b) h1).1
  have l2 : (lowOf (o * b) u).2 = 1 ∨ (lowOf (o * b) u).2 = 2 := by omega
  refine ⟨l2, ?_⟩
  have e1 : v2 (o, u) = o * (2 / u) := rfl
  have e2 : v2 (lowOf (o * b) u) = (lowOf (o * b) u).1 * (2 / (lowOf (o * b) u).2) := rfl
  rw [e1, e2]
  generalize (lowOf (o * b) u).1 = x at *
  generalize (lowOf (o * b) u).2 = y at *
  have c2 : b * (o * 2) = 2 * (o * b) := by grind
  have c1 : b * (o * 1) = o * b := by grind
  rcases hu with rfl | rfl
  · have y1 : y = 1 := by omega
    subst y1
    show x * 2 = b * (o * 2)
    omega
  · rcases l2 with rfl | rfl
    · show x * 2 = b * (o * 1)
      omega
    · show x * 1 = b * (o * 1)
      omega
theorem sc_VF {b n L : Int} : ∀ {ts : List Term}, (∀ t ∈ ts, LowU t) → VF (ts.map (scT b)) n L = b * VF ts n L
  | [], _ => by
    show (0 : Int) = b * 0
    omega
  | t :: r, h => by
    have ih := sc_VF (b := b) (n := n) (L := L) (ts := r) fun x hx => h x (List.mem_cons_of_mem _ hx)
    have e := (sc_part (b := b) (o := t.2.1) (h t List.mem_cons_self)).2
    show v2 (lowOf (t.2.1 * b) t.2.2) * n ^ t.1.1.toNat * L ^ t.1.2.toNat + VF (r.map (scT b)) n L = b * (v2 t.2 * n ^ t.1.1.toNat * L ^ t.1.2.toNat + VF r n L)
    rw [ih, e]
    show b * v2 t.2 * _ * _ + _ = _
    grind
theorem sc_ix (b n : Int) : ∀ rs : List Row, rowIx (scR b rs) n = rowIx rs n
  | [] => rfl
  | r :: rest => by
    have ih := sc_ix b n rest
    unfold rowIx at ih ⊢
    have e : scR b (r :: rest) = (r.1, r.2.map (scT b)) :: scR b rest := rfl
    rw [e]
    by_cases c : r.1 ≤ n
    · rw [List.takeWhile_cons_of_pos (by simpa using c), List.takeWhile_cons_of_pos (by simpa using c), List.length_cons, List.length_cons, ih]
    · rw [List.takeWhile_cons_of_neg (by simpa using c), List.takeWhile_cons_of_neg (by simpa using c)]
theorem sc_rowTs (b n : Int) (rs : List Row) : rowTs (scR b rs) n = (rowTs rs n).map (scT b) := by
  unfold rowTs
  rw [sc_ix]
  unfold scR
  rw [List.getElem?_map]
  cases rs[rowIx rs n - 1]? with
  | none => rfl
  | some r => rfl
theorem sc_rows {A S : Nat} {b : Int} {rs : List Row} (h : RowsF A S rs) (h1 : 1 ≤ b) (h2 : b ≤ 10) (hA : A < 2 ^ 90) : RowsF (10 * A) S (scR b rs) := by
  have ek : (scR b rs).map (·.1) = rs.map (·.1) := by
    unfold scR
    rw [List.map_map]
    rfl
  have e90 : (2 : Nat) ^ 101 = 2048 * 2 ^ 90 := by decide
  have term : ∀ r ∈ rs, ∀ t ∈ r.2, LowU (scT b t) ∧ (v2 (scT b t).2).natAbs ≤ 10 * A ∧ (scT b t).2.1.natAbs ≤ 10 * A ∧ (v2 (scT b t).2 = 0 → t.2 = (0, 1)) := fun r hr t ht => by
    have k := h.kt r hr
    obtain ⟨p1, p2⟩ := sc_part (b := b) (o := t.2.1) (k.ok.low t ht)
    have sm := k.small t ht
    have p2' : v2 (scT b t).2 = b * v2 t.2 := p2
    have m1 : (b * v2 t.2).natAbs ≤ 10 * A := by
      rw [Int.natAbs_mul]
      exact Nat.mul_le_mul (by omega) sm
    refine ⟨p1, by rw [p2']; exact m1, ?_, fun z => ?_⟩
    · have := over_le_v2 (o := (scT b t).2) p1
      rw [p2'] at this
      omega
    · rw [p2'] at z
      rcases Int.mul_eq_zero.mp z with y | y
      · omega
      · exact k.ok.zero t ht y
  refine ⟨⟨?_, by rw [ek]; exact h.ok.rises, by unfold scR; rw [List.length_map]; exact h.ok.short, fun r hr => ?_⟩, fun r hr => ?_, fun r hr => ?_⟩
  · rw [← List.head?_map, ek, List.head?_map]
    exact h.ok.first
  · obtain ⟨r0, hr0, rfl⟩ := List.mem_map.mp hr
    refine ⟨by rw [List.length_map]; exact (h.ok.terms r0 hr0).1, fun t ht => ?_⟩
    obtain ⟨t0, ht0, rfl⟩ := List.mem_map.mp ht
    obtain ⟨a1, a2, a3, a4, a5, a6, a7⟩ := (h.ok.terms r0 hr0).2 t0 ht0
    obtain ⟨q1, _, q3, _⟩ := term r0 hr0 t0 ht0
    have q1' : (scT b t0).2.2 = 1 ∨ (scT b t0).2.2 = 2 := q1
    exact ⟨a1, a2, a3, a4, by omega, by omega, by omega⟩
  · obtain ⟨r0, hr0, rfl⟩ := List.mem_map.mp hr
    have k := h.kt r0 hr0
    have kk : (r0.2.map (scT b)).map (·.1) = r0.2.map (·.1) := by
      rw [List.map_map]
      rfl
    refine ⟨⟨fun t ht => ?_, by show ((r0.2.map (scT b)).map (·.1)).Nodup; rw [kk]; exact k.ok.apart, fun t ht => ?_, fun t ht z => ?_⟩, by show (r0.2.map (scT b)).length ≤ 8; rw [List.length_map]; exact k.few, fun t ht => ?_⟩
    · obtain ⟨t0, ht0, rfl⟩ := List.mem_map.mp ht
      exact (term r0 hr0 t0 ht0).1
    · obtain ⟨t0, ht0, rfl⟩ := List.mem_map.mp ht
      exact k.ok.keys t0 ht0
    · obtain ⟨t0, ht0, rfl⟩ := List.mem_map.mp ht
      have e := (term r0 hr0 t0 ht0).2.2.2 z
      show lowOf (t0.2.1 * b) t0.2.2 = (0, 1)
      rw [e]
      show lowOf (0 * b) 1 = (0, 1)
      rw [Int.zero_mul]
      exact low_01
    · obtain ⟨t0, ht0, rfl⟩ := List.mem_map.mp ht
      exact (term r0 hr0 t0 ht0).2.1
  · obtain ⟨r0, hr0, rfl⟩ := List.mem_map.mp hr
    exact h.small r0 hr0
theorem sc_sign {A S : Nat} {b : Int} {rs1 rs2 : List Row} (h1 : RowsF A S rs1) (h2 : RowsF A S rs2) (hb : 1 ≤ b) (hb2 : b ≤ 10) (hA : A < 2 ^ 90) (n : Int) : sgX (dif2 (scR b rs1) (scR b rs2) n) = sgX (dif2 rs1 rs2 n) := by
  rw [dif2_signF ((sc_rows h1 hb hb2 hA).ts n).ok.low ((sc_rows h2 hb hb2 hA).ts n).ok.low, dif2_signF (h1.ts n).ok.low (h2.ts n).ok.low, sc_rowTs, sc_rowTs, sc_VF (h1.ts n).ok.low, sc_VF (h2.ts n).ok.low, ← Int.mul_sub]
  exact sgX_mul (by omega)
end OG

set_option Elab.async false
set_option linter.all false
set_option maxRecDepth 100000
set_option maxHeartbeats 4000000
namespace OG
open PySem PySem.Spec PyProof.Rows L2
/-! ### k21's law: sums that were drawn, the dict of answers -/
def DrawnS (M : Addr → Prop) (H : Hp) (us : List V) (R : Nat → List Row) : Prop := ∀ (i : Nat) (u : V), us[i]? = some u → ∃ S ls, u = .ref S ∧ SumsAt H S (R i) ls ∧ RowsOk 3 2 12 (R i) ∧ ¬ M S ∧ ∀ l ∈ ls, ¬ M l
theorem DrawnS.go {M : Addr → Prop} {H H' : Hp} {us : List V} {R : Nat → List Row} (h : DrawnS M H us R) (g : Go M H H') : DrawnS M H' us R := fun i u hu => by
  obtain ⟨S, ls, e, a, b, c, d⟩ := h i u hu
  exact ⟨S, ls, e, a.go g c d, b, c, d⟩
theorem DrawnS.snoc {M : Addr → Prop} {H : Hp} {us : List V} {R : Nat → List Row} {S : Addr} {rs : List Row} {ls : List Addr} (h : DrawnS M H us R) (a : SumsAt H S rs ls) (b : RowsOk 3 2 12 rs) (c : ¬ M S) (d : ∀ l ∈ ls, ¬ M l) : DrawnS M H (us ++ [.ref S]) (fun j => if j = us.length then rs else R j) := fun i u hu => by
  rcases Nat.lt_or_ge i us.length with k | k
  · rw [List.getElem?_append_left k] at hu
    obtain ⟨S', ls', e, a', b', c', d'⟩ := h i u hu
    have ne : i ≠ us.length := by omega
    have er : (if i = us.length then rs else R i) = R i := if_neg ne
    exact ⟨S', ls', e, show SumsAt H S' (if i = us.length then rs else R i) ls' by rw [er]; exact a', show RowsOk 3 2 12 (if i = us.length then rs else R i) by rw [er]; exact b', c', d'⟩
  · rw [List.getElem?_append_right k] at hu
    have e0 : i = us.length := by
      by_cases z : i - us.length = 0
      · omega
      · have : [V.ref S][i - us.length]? = none := List.getElem?_eq_none (by show 1 ≤ _; omega)
        rw [this] at hu
        cases hu
    subst e0
    rw [Nat.sub_self] at hu
    have e : V.ref S = u := Option.some.inj hu
    subst e
    have er : (if us.length = us.length then rs else R us.length) = rs := if_pos rfl
    exact ⟨S, ls, rfl, show SumsAt H S (if us.length = us.length then rs else R us.length) ls by rw [er]; exact a, show RowsOk 3 2 12 (if us.length = us.length then rs else R us.length) by rw [er]; exact b, c, d⟩
def FOk (H : Hp) (F : Addr) (R : Nat → List Row) (i j : Nat) : Prop := ∃ kvs : List (List L2.Key × V), H F = some (.dT kvs) ∧ kvs.length ≤ 3 * i + j ∧ (∀ kv ∈ kvs, ∃ x y : Nat, x < 3 ∧ y < 3 ∧ kv.1 = pairK ((x : Int), (y : Int))) ∧
  ∀ x y : Nat, x < 3 → y < 3 → (x < i ∨ x = i ∧ y < j) → ∃ t s z, valV kvs (pairK ((x : Int), (y : Int))) = some (.ref t) ∧ H t = some (.tup [.str (wordOf s), .int z]) ∧ Settled (fun n => dif2 (R x) (R y) n) s z
theorem FOk.same {H H' : Hp} {F : Addr} {R : Nat → List Row} {i j : Nat} (h : FOk H F R i j) (s : Same H H') : FOk H' F R i j := by
  obtain ⟨kvs, a, b, c, d⟩ := h
  refine ⟨kvs, s _ _ a, b, c, fun x y hx hy hh => ?_⟩
  obtain ⟨t, sg, z, e1, e2, e3⟩ := d x y hx hy hh
  exact ⟨t, sg, z, e1, s _ _ e2, e3⟩
theorem putK_len {κ : Type} [DecidableEq κ] (kvs : List (κ × V)) (k : κ) (v : V) : (putK kvs k v).length ≤ kvs.length + 1 := by
  unfold putK
  split
  · rw [List.length_map]
    omega
  · rw [List.length_append]
    show kvs.length + 1 ≤ _
    omega
theorem putK_mem {κ : Type} [DecidableEq κ] {kvs : List (κ × V)} {k : κ} {v : V} {kv : κ × V} (h : kv ∈ putK kvs k v) : kv.1 = k ∨ ∃ kv0 ∈ kvs, kv0.1 = kv.1 := by
  unfold putK at h
  split at h
  · obtain ⟨kv0, h0, e⟩ := List.mem_map.mp h
    by_cases z : kv0.1 = k
    · rw [if_pos z] at e
      rw [← e]
      exact .inl z
    · rw [if_neg z] at e
      rw [← e]
      exact .inr ⟨kv0, h0, rfl⟩
  · rcases List.mem_append.mp h with h | h
    · exact .inr ⟨kv, h, rfl⟩
    · rw [List.mem_singleton.mp h]
      exact .inl rfl
theorem FOk.put {H : Hp} {F t : Addr} {R : Nat → List Row} {i j : Nat} {s z : Int} (h : FOk H F R i j) (hi : i < 3) (hj : j < 3) (ht : H t = some (.tup [.str (wordOf s), .int z])) (hs : Settled (fun n => dif2 (R i) (R j) n) s z) :
    ∃ kvs, H F = some (.dT kvs) ∧ kvs.length < sizeLine ∧ FOk (upd H F (.dT (putK kvs (pairK ((i : Int), (j : Int))) (.ref t)))) F R i (j + 1) := by
  obtain ⟨kvs, a, b, c, d⟩ := h
  refine ⟨kvs, a, szl (by omega), _, upd_same, ?_, fun kv hkv => ?_, fun x y hx hy hh => ?_⟩
  · have := putK_len kvs (pairK ((i : Int), (j : Int))) (.ref t)
    omega
  · rcases putK_mem hkv with e | ⟨kv0, h0, e⟩
    · exact ⟨i, j, hi, hj, e⟩
    · obtain ⟨x, y, hx, hy, ek⟩ := c kv0 h0
      exact ⟨x, y, hx, hy, e.symm.trans ek⟩
  · have nF : ∀ {t' : Addr} {xs : List V}, H t' = some (.tup xs) → t' ≠ F := fun {t' xs} e n => by
      rw [n, a] at e
      cases e
    by_cases hk : x = i ∧ y = j
    · obtain ⟨rfl, rfl⟩ := hk
      refine ⟨t, s, z, ?_, ?_, hs⟩
      · rw [valV_put, if_pos rfl]
      · rw [upd_ne (nF ht)]
        exact ht
    · obtain ⟨t', sg, z', e1, e2, e3⟩ := d x y hx hy (by omega)
      refine ⟨t', sg, z', ?_, ?_, e3⟩
      · rw [valV_put, if_neg fun w => hk ?_]
        · exact e1
        · have := pairK_inj w
          have e4 := congrArg Prod.fst this
          have e5 := congrArg Prod.snd this
          dsimp only at e4 e5
          omega
      · rw [upd_ne (nF e2)]
        exact e2
theorem FOk.next {H : Hp} {F : Addr} {R : Nat → List Row} {i : Nat} (h : FOk H F R i 3) : FOk H F R (i + 1) 0 := by
  obtain ⟨kvs, a, b, c, d⟩ := h
  exact ⟨kvs, a, by omega, c, fun x y hx hy hh => d x y hx hy (by omega)⟩
theorem keys_back {H : Hp} : ∀ {kvs : List (List L2.Key × V)} {bs : List Addr}, IsKeys H kvs bs → ∀ {i : Nat} {v : V}, (bs.map V.ref)[i]? = some v → ∃ b kv, v = .ref b ∧ kv ∈ kvs ∧ H b = some (.tup (kv.1.map kV)) := by
  intro kvs bs h
  unfold IsKeys at h
  induction h with
  | nil =>
    intro i v hv
    simp at hv
  | cons h t ih =>
    intro i v hv
    cases i with
    | zero =>
      have e := Option.some.inj hv
      exact ⟨_, _, e.symm, List.mem_cons_self, h⟩
    | succ i =>
      obtain ⟨b, kv, e, hm, hb⟩ := ih hv
      exact ⟨b, kv, e, List.mem_cons_of_mem _ hm, hb⟩
theorem Settled.cases {G : Int → Int} {s z : Int} (h : Settled G s z) : s = -1 ∨ s = 0 ∨ s = 1 := by
  obtain ⟨a0, a1, _⟩ := h
  rw [← a1 z (by omega)]
  rcases sgX_cases (G z) with ⟨_, e⟩ | ⟨_, e⟩ | ⟨_, e⟩ <;> rw [e] <;> omega
theorem word_inj {s s' : Int} (h : s = -1 ∨ s = 0 ∨ s = 1) (h' : s' = -1 ∨ s' = 0 ∨ s' = 1) (e : wordOf s = wordOf s') : s = s' := by
  rcases h with rfl | rfl | rfl <;> rcases h' with rfl | rfl | rfl <;> first | rfl | (exact absurd e (by decide +kernel))
theorem settled_zero {G : Int → Int} (h : ∀ n, G n = 0) : Settled G 0 0 := ⟨Int.le_refl _, fun n _ => by rw [h]; rfl, fun z => absurd z (by omega)⟩
theorem no_far2 {A S : Nat} {rs1 rs2 : List Row} (h1 : RowsF A S rs1) (h2 : RowsF A S rs2) (hA : 18 * A < 1500) (hS : S ≤ 100) {s : Int} (he : ∃ N0, ∀ n, N0 ≤ n → sgX (dif2 rs1 rs2 n) = s) {n : Int} (n0 : 0 ≤ n) (hn : sgX (dif2 rs1 rs2 n) ≠ s) (hf : 2000 < figs n) : False := by
  obtain ⟨s', hs'⟩ := no_far h1 h2 hA hS
  obtain ⟨N0, hN⟩ := he
  have e1 := hs' n n0 hf
  have hm : n ≤ max N0 n := by omega
  have e2 := hs' (max N0 n) (by omega) (Nat.lt_of_lt_of_le hf (figs_mono n0 hm))
  have e3 := hN (max N0 n) (by omega)
  exact hn (by rw [e1, ← e2, e3])
theorem eqv_said (w1 w2 : Str) (z1 z2 : Int) : PyData.eqv (.tuple [.str w1, .int z1]) (.tuple [.str w2, .int z2]) = decide (w1 = w2 ∧ z1 = z2) := by
  by_cases h1 : w1 = w2 <;> by_cases h2 : z1 = z2 <;> simp [PyData.eqv, PyData.eqvAll, h1, h2]
theorem shaped_said (s z : Int) : SeqAt.shaped (.tuple [.str (wordOf s), .int z]) = true := by
  unfold wordOf
  split
  · exact (by decide +kernel : SeqAt.shaped (.tuple [.str "alike", .int 0]) = true)
  · split
    · exact (by decide +kernel : SeqAt.shaped (.tuple [.str "more", .int 0]) = true)
    · exact (by decide +kernel : SeqAt.shaped (.tuple [.str "less", .int 0]) = true)
theorem neD_said {K : PySem.W.Frag} {H : Hp} {Q : V → Hp → Prop} {t1 t2 : Addr} {s1 s2 : Int} {z1 z2 : Int} (h1 : SqT K H t1 [.str (wordOf s1), .int z1]) (h2 : SqT K H t2 [.str (wordOf s2), .int z2]) (q : Q (.bl (!decide (wordOf s1 = wordOf s2 ∧ z1 = z2))) H) : rNeD K (.ref t1) (.ref t2) H Q :=
  ⟨_, _, .tup h1 (.cons (.str _) (.cons (.int _) .nil)), .tup h2 (.cons (.str _) (.cons (.int _) .nil)), shaped_said _ _, shaped_said _ _, by rw [eqv_said]; exact q⟩
/-- sums behind a list, none of them at M -/
def ScS (M : Addr → Prop) (H : Hp) (us : List V) (R : Nat → List Row) : Prop := ∀ (i : Nat) (u : V), us[i]? = some u → ∃ S ls, u = .ref S ∧ SumsAt H S (R i) ls ∧ ¬ M S ∧ ∀ l ∈ ls, ¬ M l
theorem ScS.go {M : Addr → Prop} {H H' : Hp} {us : List V} {R : Nat → List Row} (h : ScS M H us R) (g : Go M H H') : ScS M H' us R := fun i u hu => by
  obtain ⟨S, ls, e, a, c, d⟩ := h i u hu
  exact ⟨S, ls, e, a.go g c d, c, d⟩
theorem ScS.snoc {M : Addr → Prop} {H : Hp} {us : List V} {R : Nat → List Row} {S : Addr} {rs : List Row} {ls : List Addr} (h : ScS M H us R) (a : SumsAt H S rs ls) (e0 : R us.length = rs) (c : ¬ M S) (d : ∀ l ∈ ls, ¬ M l) : ScS M H (us ++ [.ref S]) R := fun i u hu => by
  rcases Nat.lt_or_ge i us.length with k | k
  · rw [List.getElem?_append_left k] at hu
    exact h i u hu
  · rw [List.getElem?_append_right k] at hu
    have e1 : i = us.length := by
      by_cases z : i - us.length = 0
      · omega
      · have : [V.ref S][i - us.length]? = none := List.getElem?_eq_none (by show 1 ≤ _; omega)
        rw [this] at hu
        cases hu
    subst e1
    rw [Nat.sub_self] at hu
    have e : V.ref S = u := Option.some.inj hu
    subst e
    exact ⟨S, ls, rfl, by rw [e0]; exact a, c, d⟩
theorem rows_get {H : Hp} {us : List V} {rs : List Row} {ls : List Addr} (h : RowsAt H us rs ls) {i : Nat} {u : V} (hu : us[i]? = some u) : ∃ r l, rs[i]? = some r ∧ RowAt H u r l := by
  obtain ⟨r, l, a, _, b⟩ := h.get hu
  exact ⟨r, l, a, b⟩
theorem take_snoc {α : Type} {rs : List α} {i : Nat} {r : α} (h : rs[i]? = some r) : rs.take (i + 1) = rs.take i ++ [r] := by
  rw [List.take_add_one, h]
  rfl
theorem found_get {H : Hp} {F b t : Addr} {kvs : List (List L2.Key × V)} {x y : Int} (hF : H F = some (.dT kvs)) (hb : H b = some (.tup [.int x, .int y])) (hv : valV kvs (pairK (x, y)) = some (.ref t)) : DGet H F (.ref b) (some (.ref t)) := by
  have gg := DGet.t (k := pairK (x, y)) hF hb
  rw [hv] at gg
  exact gg
end OG

set_option Elab.async false
set_option linter.all false
set_option maxRecDepth 100000
set_option maxHeartbeats 4000000
namespace OG
open PySem PySem.Spec PyProof.Rows L2
/-! ### max(d), d a dict whose keys are pairs of ints -/
theorem dataLt_pair (p q : Int × Int) : PySem.W.dataLt (.tuple [.int p.1, .int p.2]) (.tuple [.int q.1, .int q.2]) = SrtO.lexB p q := by
  refine (PySem.W.DatumOrd.lt_eq p q).trans ?_
  show (if p.1 = q.1 then decide (p.2 < q.2) else decide (p.1 < q.1)) = _
  by_cases h : SrtO.lexB p q = true
  · rw [h]
    have := SrtO.lexB_iff.mp h
    split
    · exact decide_eq_true (by omega)
    · exact decide_eq_true (by omega)
  · have h' : SrtO.lexB p q = false := by simpa using h
    rw [h']
    have := SrtO.lexB_no.mp h'
    split
    · exact decide_eq_false (by omega)
    · exact decide_eq_false (by omega)
theorem best_most {f : Nat → Int × Int} {bt : Nat → Nat → Bool} {n : Nat} (hbt : ∀ i j, i ≤ n → j ≤ n → bt i j = SrtO.lexB (f j) (f i)) : ∀ m, m ≤ n → argBest bt m ≤ m ∧ ∀ k ≤ m, SrtO.lexB (f (argBest bt m)) (f k) = false
  | 0, _ => ⟨Nat.le_refl _, fun k hk => by
    have e : k = 0 := by omega
    subst e
    show SrtO.lexB (f 0) (f 0) = false
    exact SrtO.lexB_no.mpr (by omega)⟩
  | m + 1, hm => by
    obtain ⟨i1, i2⟩ := best_most hbt m (by omega)
    show (if bt (m + 1) (argBest bt m) then m + 1 else argBest bt m) ≤ m + 1 ∧ ∀ k ≤ m + 1, SrtO.lexB (f (if bt (m + 1) (argBest bt m) then m + 1 else argBest bt m)) (f k) = false
    by_cases c : bt (m + 1) (argBest bt m) = true
    · rw [if_pos c]
      refine ⟨Nat.le_refl _, fun k hk => ?_⟩
      rw [hbt _ _ hm (by omega)] at c
      have c' := SrtO.lexB_iff.mp c
      rcases Nat.lt_or_ge m k with h | h
      · have e : k = m + 1 := by omega
        subst e
        exact SrtO.lexB_no.mpr (by omega)
      · have := SrtO.lexB_no.mp (i2 k h)
        exact SrtO.lexB_no.mpr (by omega)
    · rw [if_neg c]
      refine ⟨by omega, fun k hk => ?_⟩
      rcases Nat.lt_or_ge m k with h | h
      · have e : k = m + 1 := by omega
        subst e
        rw [hbt _ _ hm (by omega)] at c
        simpa using c
      · exact i2 k h
theorem depth_pairs : ∀ ks : List (Int × Int), PyData.depthAll (ks.map PySem.W.Datum.toD) ≤ 10
  | [] => by decide
  | k :: r => by
    show max (PyData.depth (.tuple [.int k.1, .int k.2])) (PyData.depthAll (r.map PySem.W.Datum.toD)) ≤ 10
    have : PyData.depth (.tuple [.int k.1, .int k.2]) ≤ 10 := by
      show PyData.depth (.tuple [.int 0, .int 0]) ≤ 10
      decide
    exact Nat.max_le.mpr ⟨this, depth_pairs r⟩
theorem dp_pairs {K : PySem.W.Frag} {H : Hp} : ∀ {bs : List Addr}, (∀ b ∈ bs, H b = some (.tup [.int (keyAt H b).1, .int (keyAt H b).2])) → DpAll K H (bs.map V.ref) ((bs.map (keyAt H)).map PySem.W.Datum.toD)
  | [], _ => .nil
  | b :: bs, h => .cons (.tup (SqT.of (h b List.mem_cons_self)) (.cons (.int _) (.cons (.int _) .nil))) (dp_pairs fun x hx => h x (List.mem_cons_of_mem _ hx))
section
variable {X : Cx}
def rMaxDT : List V → Hp → VK → Prop := fun xs H Q => ∃ (a : Addr) (kvs : List (List L2.Key × V)) (ks : List (Int × Int)), xs = [.ref a] ∧ H a = some (.dT kvs) ∧ kvs.map (·.1) = ks.map pairK ∧ ks ≠ [] ∧
  ∀ (b : Addr) (p : Int × Int), p ∈ ks → (∀ q ∈ ks, SrtO.lexB p q = false) → H b = some (.tup [.int p.1, .int p.2]) → Q (.ref b) H
theorem cr_maxDT (calm : X.calm = true) (hu : X.A.units + 64 < cLine) : CallR X (.builtin "max") rMaxDT := by
  intro pins sh vars H xs us Q inv rel ask
  obtain ⟨d, kvs, ks, rfl, at', ek, ne, wish⟩ := ask
  obtain ⟨u, rfl, ru⟩ := rel.one
  cases ru
  obtain ⟨most, lo, kt, pr, o, es, ep, here, ex, dt, ents, nd⟩ := (show ObjOk X.prog X.w H sh.heap d (.dT kvs) from inv.hok d _ at')
  have l1 : es.size = kt.length := size_of_entries ents
  have l2 : kvs.length = kt.length := Paired.length pr
  have raw : sh.heap.DictRaw d es ep := ⟨o, here, ex, dt⟩
  obtain ⟨eks, hbs⟩ := keys_paired (isKeys_of pr) ek
  generalize hbsd : (kt.map fun x => x.2.1) = bs at *
  have lks : ks.length = es.size := by
    have := congrArg List.length ek
    rw [List.length_map, List.length_map] at this
    omega
  have npos : 0 < es.size := by
    rw [← lks]
    exact List.length_pos_iff.mpr ne
  have got : (es.map (·.key)).toList = bs.map Value.ref := by
    rw [← hbsd]
    refine keys_gathered ents ⟨by rw [Array.size_map], fun i v hv => ?_⟩
    rw [Array.getElem?_map] at hv
    obtain ⟨en, he, e⟩ := Option.map_eq_some_iff.mp hv
    exact ⟨en, he, e.symm⟩
  have rv : Vals (bs.map V.ref) (es.map (·.key)).toList := by
    rw [got]
    exact vals_refs _
  obtain ⟨as, hr⟩ := Dp.readsAll inv _ _ _ (dp_pairs (K := X.K) hbs) rv
  rw [eks] at hr
  have hal : PySem.W.AlikeAll (ks.map PySem.W.Datum.toD) := PySem.W.alikeAll_datum ks
  have hdp := depth_pairs ks
  have cmp := PySem.W.cmpIn_gt (prog := X.prog) (w := X.w) (A := X.A.in1) hr hal (by show X.A.units + 1 + _ < _; omega)
  have hlt : d < sh.heap.objs.size := raw.lt_size
  refine call_max_walkH (PySem.wpAny_pyIter_dict_raw lo raw ?_)
  refine ⟨_, _, _, _, _, _, _, sh.heap, _, rfl, (PySem.Walks.rawKeys (prog := X.prog) (w := X.w) (A := X.A.in1) (inv.ok.hd calm) _ d (Nat.ne_of_lt hlt) es ep).toS, ⟨⟨_, Heap.get?_push_size _ rfl, rfl, rfl⟩, raw.push _⟩, fun b hb => ?_, npos, fun b o e hb => absurd (Heap.lt_size e) ((List.mem_singleton.mp hb) ▸ Nat.lt_irrefl _), fun b o e => Heap.get?_push_of_some _ e, fun i j vi vj s' Q' E' hk hi hj hq => cmp i j vi vj s' Q' E' hk ?_ ?_ hq, fun v s' hP m => ?_⟩
  · show b < (sh.heap.push _).objs.size
    rw [Heap.size_push]
    rcases List.mem_cons.mp hb with rfl | hb
    · exact Nat.lt_succ_self _
    · rw [List.mem_singleton.mp hb]
      exact Nat.lt_succ_of_lt hlt
  · obtain ⟨h, rfl⟩ := hi
    rw [Array.getElem?_map, Array.getElem?_eq_getElem h]
    rfl
  · obtain ⟨h, rfl⟩ := hj
    rw [Array.getElem?_map, Array.getElem?_eq_getElem h]
    rfl
  · obtain ⟨h', tk, rfl, hk'⟩ := PySem.W.moved_old rfl rfl m
    have get : ∀ i, i ≤ es.size - 1 → (ks.map PySem.W.Datum.toD).getD i .none = .tuple [.int (ks.getD i (0, 0)).1, .int (ks.getD i (0, 0)).2] := fun i hi => by
      have hl : i < ks.length := by omega
      rw [List.getD_eq_getElem?_getD, List.getElem?_map, List.getElem?_eq_getElem hl, List.getD_eq_getElem?_getD, List.getElem?_eq_getElem hl]
      rfl
    obtain ⟨b1, b2⟩ := best_most (f := fun i => ks.getD i (0, 0)) (bt := fun i j => PySem.W.dataLt ((ks.map PySem.W.Datum.toD).getD j .none) ((ks.map PySem.W.Datum.toD).getD i .none)) (n := es.size - 1) (fun i j hi hj => by
      show PySem.W.dataLt _ _ = _
      rw [get i hi, get j hj]
      exact dataLt_pair _ _) (es.size - 1) (Nat.le_refl _)
    obtain ⟨hi, rfl⟩ := hP
    generalize argBest _ (es.size - 1) = ix at *
    have hib : ix < bs.length := by
      have := congrArg List.length eks
      rw [List.length_map] at this
      omega
    have ekey : es[ix].key = Value.ref bs[ix] := by
      have h1 : (es.map (·.key)).toList[ix]? = some es[ix].key := by
        rw [Array.getElem?_toList, Array.getElem?_map, Array.getElem?_eq_getElem hi]
        rfl
      rw [got, List.getElem?_map, List.getElem?_eq_getElem hib] at h1
      exact (Option.some.inj h1).symm
    have hbm : bs[ix] ∈ bs := List.getElem_mem hib
    have ekp : ks.getD ix (0, 0) = keyAt H bs[ix] := by
      rw [List.getD_eq_getElem?_getD, ← eks, List.getElem?_map, List.getElem?_eq_getElem hib]
      rfl
    refine ⟨.ref bs[ix], H, inv.kept (t' := tk) hk', ekey, wish _ (keyAt H bs[ix]) ?_ (fun q hq => ?_) (hbs _ hbm)⟩
    · rw [← eks]
      exact List.mem_map.mpr ⟨_, hbm, rfl⟩
    · obtain ⟨k, hk, ekq⟩ := List.getElem_of_mem hq
      have := b2 k (by omega)
      have e3 : ks.getD k (0, 0) = q := by
        rw [List.getD_eq_getElem?_getD, List.getElem?_eq_getElem hk]
        exact ekq
      rw [e3, ekp] at this
      exact this
end
/-! ### d != {} -/
section
variable {prog : Program} {w : World} {A : Around} {s : Shared} {E : Value → Shared → Prop}
/-- two dicts, the second of them empty: alike if the first is empty too -/
theorem samePairs0 {nm : String} {a b : Addr} {es es' : Array DictEntry} {ep ep' : Nat} {Q : Bool → Shared → Prop} (ha : (a == sysModules) = false) (hb : (b == sysModules) = false)
    (da : s.heap.DictRaw a es ep) (db : s.heap.DictRaw b es' ep') (h0 : es'.size = 0) (h : Q (es.size == 0) s) : wpAny (model prog w) A (Builtin.Dict.samePairs nm a b) Q E s := by
  rcases da with ⟨objA, getA, _, datA⟩
  rcases db with ⟨objB, getB, _, datB⟩
  have off : ∀ {c : Addr}, (c == sysModules) = false → ¬ (c == sysModules) = true := fun e z => by rw [e] at z; cases z
  unfold Builtin.Dict.samePairs
  unfold Builtin.Dict.showsAll
  rw [if_neg (off ha), if_neg (off hb)]
  apply wpAny_bind
  refine wpAny_pure ?_
  apply wpAny_bind
  refine wpAny_pure ?_
  apply wpAny_bind
  refine wpAny_dictEntries getA datA ?_
  show wpAny _ _ (_ >>= _) _ _ _
  apply wpAny_bind
  refine wpAny_dictEntries getB datB ?_
  rcases Nat.eq_zero_or_pos es.size with hz | hz
  · have alike : ¬ (es.size != es'.size) = true := by rw [hz, h0]; decide
    rw [if_neg alike]
    apply wpAny_bind
    refine wpAny_dictEpoch getA datA ?_
    apply wpAny_bind
    simp only [Std.Legacy.Range.forIn_eq_forIn_range', Std.Legacy.Range.size, hz]
    rw [hz] at h
    exact wpAny_pure (wpAny_pure (by exact h))
  · have un : (es.size != es'.size) = true := by
      rw [h0]
      exact bne_iff_ne.mpr (by omega)
    have no : (es.size == 0) = false := by
      rw [beq_eq_false_iff_ne]
      omega
    rw [if_pos un]
    rw [no] at h
    apply wpAny_bind
    refine wpAny_rule ?_
    exact wpAny_pure h
theorem ne_empty {a b : Addr} {es es' : Array DictEntry} {ep ep' : Nat} {Q : Value → Shared → Prop} (ha : (a == sysModules) = false) (hb : (b == sysModules) = false)
    (da : s.heap.DictRaw a es ep) (db : s.heap.DictRaw b es' ep') (h0 : es'.size = 0) (hu : A.units < cLine) (h : Q (.bool (!(es.size == 0))) s) : wpAny (model prog w) A (compareOp .NotEq (.ref a) (.ref b)) Q E s := by
  have ta := da.typeIs
  have tb := db.typeIs
  apply PySem.wpAny_richCompare_same_room (op := .NotEq) ta tb PySem.F.slot_dict_ne _ hu
  apply wpAny_call_entry PySem.F.slot_dict_ne ta PySem.F.entry_dict_ne _ (PySem.F.args_dict_ne_2 _ _)
  apply wpAny_bind
  unfold Builtin.Dict.dictSlotArgs
  apply wpAny_bind
  refine wpAny_notOrdered_dict ta ?_
  apply wpAny_pure
  apply wpAny_bind
  refine wpAny_isInstance (T := "dict") tb PySem.F.sub_dict_dict ?_
  rw [if_neg (by decide)]
  apply wpAny_bind
  refine wpAny_pure ?_
  apply wpAny_bind
  refine wpAny_pure ?_
  apply wpAny_bind
  refine samePairs0 ha hb da db h0 ?_
  apply wpAny_pure
  refine ⟨_, rfl, (fun z => by cases z), ?_⟩
  have e : ((es.size == 0) == false) = !(es.size == 0) := by cases (es.size == 0) <;> rfl
  rw [e]
  exact h
end
section
variable {X : Cx}
theorem dT_raw {pins : List (Addr × Obj)} {vars : L2.St} {H : Hp} {sh : Shared} {d : Addr} {kvs : List (List L2.Key × V)} (inv : Inv X pins vars H sh) (at' : H d = some (.dT kvs)) : ∃ es ep, sh.heap.DictRaw d es ep ∧ (d == sysModules) = false ∧ es.size = kvs.length := by
  obtain ⟨most, lo, kt, pr, o, es, ep, here, ex, dt, ents, nd⟩ := (show ObjOk X.prog X.w H sh.heap d (.dT kvs) from inv.hok d _ at')
  exact ⟨es, ep, ⟨o, here, ex, dt⟩, lo, (size_of_entries ents).trans (Paired.length pr).symm⟩
def rNeD0 : R2 := fun x y H Q => ∃ (a b : Addr) (kvs : List (List L2.Key × V)), x = .ref a ∧ y = .ref b ∧ H a = some (.dT kvs) ∧ H b = some (.dT []) ∧ Q (.bl (!decide (kvs = []))) H
theorem op_neD0 (hu : X.A.units + 64 < cLine) : OpR X (compareOp .NotEq) rNeD0 := by
  intro pins sh vars H x y v u Q I rx ry ask
  obtain ⟨a, b, kvs, rfl, rfl, ha, hb, q⟩ := ask
  cases rx
  cases ry
  obtain ⟨es, ep, ra, la, l1⟩ := dT_raw I ha
  obtain ⟨es', ep', rb, lb, l2⟩ := dT_raw I hb
  refine ne_empty la lb ra rb l2 (by omega) ⟨.bl (!decide (kvs = [])), H, I, ?_, q⟩
  have e : (es.size == 0) = decide (kvs = []) := by
    rw [l1]
    cases kvs with
    | nil => rfl
    | cons k r => rfl
  rw [e]
  rfl
end
end OG

set_option Elab.async false
set_option linter.all false
set_option maxRecDepth 100000
set_option maxHeartbeats 4000000
namespace OG
open PySem PySem.Spec PyProof.Rows L2
/-! ### what is left over: the law's own difference of terms, whole -/
/-- the dict of whole parts -/
def wholeK (m : Int) (ds : List Term) : List (List L2.Key × V) := (ds.filter fun t => decide (t.2.1 ≠ 0)).map fun t => (pairK t.1, V.int (t.2.1 * (m / t.2.2)))
def spWholeL : Sp := fun vs H Q _ => ∃ (F : Addr) (kvs : List (List L2.Key × V)) (ds : List Term), vs = [.ref F] ∧ H F = some (.dT kvs) ∧ PD H kvs ds ∧ DOF ds ∧ ds.length ≤ 200 ∧
  ∀ (G : Addr) (m : Int) (H' : Hp), Same H H' → H G = none → (m = 1 ∨ m = 2) → (∀ t ∈ ds, t.2.2 = 1 ∨ m = 2) → H' G = some (.dT (wholeK m ds)) → Q (.ref G) H'
def spLeftOver : Sp := fun vs H Q _ => ∃ (l1 l2 : Addr) (ts1 ts2 : List Term), vs = [.ref l1, .ref l2] ∧ TermsAt H l1 ts1 ∧ TermsAt H l2 ts2 ∧ DOF ts1 ∧ DOF ts2 ∧ ts1.length ≤ 100 ∧ ts2.length ≤ 100 ∧
  ∀ (G : Addr) (m : Int) (H' : Hp), Same H H' → H G = none → (m = 1 ∨ m = 2) → (∀ t ∈ ts2.foldl stepT ts1, t.2.2 = 1 ∨ m = 2) → H' G = some (.dT (wholeK m (ts2.foldl stepT ts1))) → Q (.ref G) H'
theorem wholeK_fresh {m : Int} {ds : List Term} {k : Int × Int} (h : ∀ t ∈ ds, t.1 ≠ k) : valV (wholeK m ds) (pairK k) = none := by
  unfold wholeK
  induction ds with
  | nil => rfl
  | cons t r ih =>
    have ih' := ih fun x hx => h x (List.mem_cons_of_mem _ hx)
    by_cases c : t.2.1 = 0
    · rw [List.filter_cons_of_neg (by simp [c])]
      exact ih'
    · rw [List.filter_cons_of_pos (by simp [c]), List.map_cons]
      refine (valV_neg (p := (pairK t.1, V.int (t.2.1 * (m / t.2.2)))) fun e => h t List.mem_cons_self (pairK_inj e)).trans ih'
theorem wholeK_snoc (m : Int) (ds : List Term) (t : Term) : wholeK m (ds ++ [t]) = if t.2.1 ≠ 0 then wholeK m ds ++ [(pairK t.1, V.int (t.2.1 * (m / t.2.2)))] else wholeK m ds := by
  unfold wholeK
  rw [List.filter_append, List.map_append]
  by_cases c : t.2.1 = 0
  · rw [if_neg (fun z => z c), List.filter_cons_of_neg (by simp [c])]
    exact List.append_nil _
  · rw [if_pos c, List.filter_cons_of_pos (by simp [c])]
    rfl
theorem wholeK_len (m : Int) (ds : List Term) : (wholeK m ds).length ≤ ds.length := by
  unfold wholeK
  rw [List.length_map]
  exact List.length_filter_le _ _
end OG

set_option Elab.async false
set_option linter.all false
set_option maxRecDepth 100000
set_option maxHeartbeats 4000000
namespace OG
open PySem PySem.Spec PyProof.Rows L2
/-! ### the sign in the end is that of the greatest term left over -/
theorem grp_lead {a : Mono} {l : List Mono} {p0 : Nat × List Int} {pw : Pw} (h : grp (a :: l) = p0 :: pw) : lastC p0.2 = a.2.2 := by
  have hx : ∀ (q : List Int) (f : Nat) (c : Int), lastC (ext q f c) = c := fun q f c => by
    unfold ext
    exact lastC_snoc _ c
  have e2 : grp (a :: l) = match grp l with
    | [] => [(a.1, ext [] a.2.1 a.2.2)]
    | e :: pw => if e.1 = a.1 then (a.1, ext e.2 a.2.1 a.2.2) :: pw else (a.1, ext [] a.2.1 a.2.2) :: e :: pw := rfl
  rw [e2] at h
  cases hg : grp l with
  | nil =>
    rw [hg] at h
    cases h
    exact hx _ _ _
  | cons e r =>
    rw [hg] at h
    dsimp only at h
    by_cases c : e.1 = a.1
    · rw [if_pos c] at h
      cases h
      exact hx _ _ _
    · rw [if_neg c] at h
      cases h
      exact hx _ _ _
def leadT : List Term → Int
  | [] => 0
  | t :: _ => sgX t.2.1
theorem lead_end {A S : Nat} {rs1 rs2 : List Row} (h1 : RowsF A S rs1) (h2 : RowsF A S rs2) (hA : 18 * A < 2 ^ 122) (hS : S ≤ 100) {ts : List Term} (hp : ts.Perm (lessT (rowTs rs1 (2 ^ 100)) (rowTs rs2 (2 ^ 100)))) (hf : (ts.map (monoOf 2)).Pairwise lexD) : ∃ N0, ∀ n, N0 ≤ n → sgX (dif2 rs1 rs2 n) = leadT ts := by
  have kt1 := h1.ts (2 ^ 100)
  have kt2 := h2.ts (2 ^ 100)
  obtain ⟨ok, nz, val, sm, len⟩ := lessF_facts kt1 kt2
  have hst : StOfF rs1 rs2 (2 ^ 100) (grp (ts.map (monoOf 2))) := ⟨2, ts, rfl, .inr rfl, fun t ht => by
    rcases ok.low t ht with e | e <;> rw [e] <;> decide, hp, hf⟩
  obtain ⟨pf, few, polys, m, m0, hv⟩ := stOfF_facts h1 h2 hst
  have stay : ∀ {rs : List Row}, RowsF A S rs → ∀ n : Int, 2 ^ 100 ≤ n → rowTs rs n = rowTs rs (2 ^ 100) := fun {rs} h n hn => rowTs_stay hn fun r hr _ => by
    have a := (h.small r hr).2
    have b := pow2_le (i := S) (j := 100) hS
    omega
  have sg : ∀ n : Int, 2 ^ 100 ≤ n → sgX (dif2 rs1 rs2 n) = sgX (pwEv (grp (ts.map (monoOf 2))) (figs n) n) := fun n hn => by
    rw [dif2_signF (h1.ts n).ok.low (h2.ts n).ok.low, stay h1 n hn, stay h2 n hn]
    have := hv (figs n) n
    rw [← sgX_mul (k := m) m0, ← this, sgX_mul (by decide)]
  cases ts with
  | nil => exact ⟨2 ^ 100, fun n hn => sg n hn⟩
  | cons t0 rest =>
    obtain ⟨q0, pw0, eg, _, _⟩ := grp_head (l := rest.map (monoOf 2)) (a := monoOf 2 t0) hf
    have eg' : grp ((t0 :: rest).map (monoOf 2)) = ((monoOf 2 t0).1, q0) :: pw0 := eg
    have elast : lastC q0 = t0.2.1 * (2 / t0.2.2) := grp_lead eg
    rw [eg'] at sg pf few polys
    have cf : ∀ p ∈ ((monoOf 2 t0).1, q0) :: pw0, Cf 122 p.2 := fun p hp c hc => by
      have := (polys p hp).2.2.2 c hc
      omega
    obtain ⟨ne, _, tr, c18⟩ := polys _ List.mem_cons_self
    obtain ⟨q, c, ep, hc⟩ := trim_last tr ne
    have ep' : q0 = q ++ [c] := ep
    have elc : c = t0.2.1 * (2 / t0.2.2) := by
      rw [← elast, ep', lastC_snoc]
    have hu : t0.2.2 = 1 ∨ t0.2.2 = 2 := ok.low t0 (hp.mem_iff.mp List.mem_cons_self)
    have esg : sgX c = sgX t0.2.1 := by
      rw [elc]
      rcases hu with e | e <;> rw [e]
      · rw [Int.mul_comm]
        exact sgX_mul (by decide)
      · rw [Int.mul_comm]
        exact sgX_mul (by decide)
    refine ⟨2 ^ (18 * A + 2001), fun n hn => ?_⟩
    have np : 0 < n := Int.lt_of_lt_of_le (Int.pow_pos (by decide)) hn
    have hfn : 18 * A + 2002 ≤ figs n := figs_ge_of (k := 18 * A + 2002) hn (by omega)
    have n100 : 2 ^ 100 ≤ n := by
      have := pow2_le (i := 100) (j := 18 * A + 2001) (by omega)
      omega
    have lead : sgX (ev q0 (figs n)) = sgX c := by
      rw [ep']
      refine ev_lead (B := 18 * A + 1) (by omega) (by omega) (fun d hd => ?_) hc
      have := c18 d (by rw [ep]; exact List.mem_append_left _ hd)
      omega
    have may : MayLow (2 ^ 100, ((monoOf 2 t0).1, q0) :: pw0) 230 := by
      have d9 := deep_le (pw := ((monoOf 2 t0).1, q0) :: pw0) fun p hp => (polys p hp).2.1
      have f101 : figs ((2 : Int) ^ 100) ≤ 101 := figs_le_of (by decide) (by decide)
      refine ⟨?_, ?_⟩
      · unfold leastOf
        show max (max 1 (2 * (deepOf (((monoOf 2 t0).1, q0) :: pw0) : Int))) ((figs ((2 : Int) ^ 100) : Int) + 1) ≤ 230
        omega
      · show (figs (wtA ((((monoOf 2 t0).1, q0) :: pw0).drop 1) 230) : Int) < 230
        have b := wtA_bits (B := 122) (x := 230) (by decide) (by decide) (r := (((monoOf 2 t0).1, q0) :: pw0).drop 1) fun p hp => ⟨cf p (List.mem_of_mem_drop hp), (polys p (List.mem_of_mem_drop hp)).2.1⟩
        have l16 : ((((monoOf 2 t0).1, q0) :: pw0).drop 1).length ≤ 16 := by
          rw [List.length_drop]
          omega
        generalize (((monoOf 2 t0).1, q0) :: pw0).drop 1 = dr at *
        have pp : (0 : Int) < 2 ^ (122 + 90) := Int.pow_pos (by decide)
        have mm : (dr.length : Int) * 2 ^ (122 + 90) ≤ 16 * 2 ^ (122 + 90) := Int.mul_le_mul_of_nonneg_right (by omega) (Int.le_of_lt pp)
        have e217 : (2 : Int) ^ 217 = 32 * 2 ^ (122 + 90) := by decide +kernel
        have f := figs_le_of (n := wtA dr 230) (k := 217) (wtA_nn (by decide) _) (by omega)
        omega
    have m' := may.mono (g := (figs n : Int)) (by omega)
    obtain ⟨w1, w2, _⟩ := m'.wt rfl (Int.le_of_lt np)
    rw [sg n n100]
    have w1' : wtA pw0 (figs n) < n := w1
    have hfl := pf.falls
    rw [lead_sign hfl w2 (Int.lt_of_le_of_lt (wt_le_wtA (by omega) pw0) w1') fun z => hc (sgX_eq_zero.mp (by rw [← lead]; exact (by rw [show ev q0 (figs n) = 0 from z]; rfl)))]
    exact lead.trans esg
theorem valV_whole {m : Int} : ∀ {ds : List Term} {t : Term}, (ds.map (·.1)).Nodup → t ∈ ds → t.2.1 ≠ 0 → valV (wholeK m ds) (pairK t.1) = some (.int (t.2.1 * (m / t.2.2)))
  | [], _, _, h, _ => (nomatch h)
  | a :: r, t, nd, h, hz => by
    rw [List.map_cons, List.nodup_cons] at nd
    unfold wholeK
    rcases List.mem_cons.mp h with rfl | h
    · rw [List.filter_cons_of_pos (by simp [hz]), List.map_cons]
      exact valV_pos rfl
    · have ih := valV_whole (m := m) nd.2 h hz
      unfold wholeK at ih
      by_cases c : a.2.1 = 0
      · rw [List.filter_cons_of_neg (by simp [c])]
        exact ih
      · rw [List.filter_cons_of_pos (by simp [c]), List.map_cons]
        refine (valV_neg (p := (pairK a.1, V.int (a.2.1 * (m / a.2.2)))) fun e => nd.1 ?_).trans ih
        rw [show a.1 = t.1 from pairK_inj e]
        exact List.mem_map.mpr ⟨t, h, rfl⟩
theorem whole_end {A S : Nat} {rs1 rs2 : List Row} (h1 : RowsF A S rs1) (h2 : RowsF A S rs2) (hA : 18 * A < 2 ^ 122) (hS : S ≤ 100) {ts1 ts2 : List Term} (e1 : rowTs rs1 (2 ^ 100) = ts1) (e2 : rowTs rs2 (2 ^ 100) = ts2) {m : Int} (hm : m = 1 ∨ m = 2) (hdv : ∀ t ∈ ts2.foldl stepT ts1, t.2.2 = 1 ∨ m = 2) :
    (wholeK m (ts2.foldl stepT ts1) = [] → ∃ N0, ∀ n, N0 ≤ n → sgX (dif2 rs1 rs2 n) = 0) ∧
    ∀ (p : Int × Int) (ks : List (Int × Int)), (wholeK m (ts2.foldl stepT ts1)).map (·.1) = ks.map pairK → p ∈ ks → (∀ q ∈ ks, SrtO.lexB p q = false) → ∃ x, valV (wholeK m (ts2.foldl stepT ts1)) (pairK p) = some (.int x) ∧ ∃ N0, ∀ n, N0 ≤ n → sgX (dif2 rs1 rs2 n) = sgX x := by
  have k1 := h1.ts (2 ^ 100)
  have k2 := h2.ts (2 ^ 100)
  rw [e1] at k1
  rw [e2] at k2
  have hok : DOF (ts2.foldl stepT ts1) := (foldu_ok ts2 ts1 k1.ok k2.ok).1
  have hL : lessT ts1 ts2 = (ts2.foldl stepT ts1).filter fun t => decide (t.2.1 ≠ 0) := by
    unfold lessT
    refine List.filter_congr fun t ht => ?_
    by_cases c : t.2.1 = 0
    · have : t.2 = (0, 1) := hok.zero t ht (by unfold v2; rw [c]; omega)
      rw [this]
      rfl
    · rw [decide_eq_true c]
      exact decide_eq_true fun z => c (by rw [z])
  generalize ts2.foldl stepT ts1 = ds at *
  have sub : ∀ t, t ∈ ds.filter (fun t => decide (t.2.1 ≠ 0)) → t ∈ ds ∧ t.2.1 ≠ 0 := fun t ht => by
    obtain ⟨a, b⟩ := List.mem_filter.mp ht
    exact ⟨a, of_decide_eq_true b⟩
  obtain ⟨ts, hp, hf⟩ := sorted_exists (ds := ds.filter fun t => decide (t.2.1 ≠ 0)) 2 ((List.Sublist.map _ List.filter_sublist).nodup hok.apart) fun t ht => ⟨(hok.keys t (sub t ht).1).1, (hok.keys t (sub t ht).1).2.2.1⟩
  have hend := lead_end h1 h2 hA hS (ts := ts) (by rw [e1, e2, hL]; exact hp) hf
  refine ⟨fun hz => ?_, fun p ks hks hpk hmax => ?_⟩
  · have hz2 : ds.filter (fun t => decide (t.2.1 ≠ 0)) = [] := List.map_eq_nil_iff.mp hz
    rw [hz2] at hp
    have : ts = [] := List.Perm.eq_nil hp
    rw [this] at hend
    exact hend
  · have ekeys : ks = (ds.filter fun t => decide (t.2.1 ≠ 0)).map (·.1) := by
      unfold wholeK at hks
      rw [List.map_map] at hks
      have inj : ∀ {a b : List (Int × Int)}, a.map pairK = b.map pairK → a = b := fun {a} => by
        induction a with
        | nil =>
          intro b h
          cases b with
          | nil => rfl
          | cons y ys => cases h
        | cons x xs ih =>
          intro b h
          cases b with
          | nil => cases h
          | cons y ys =>
            have h1 := List.cons.inj h
            rw [pairK_inj h1.1, ih h1.2]
      refine inj (hks.symm.trans ?_)
      rw [List.map_map]
      rfl
    rw [ekeys] at hpk hmax
    obtain ⟨t, ht, rfl⟩ := List.mem_map.mp hpk
    obtain ⟨htd, htz⟩ := sub t ht
    refine ⟨_, valV_whole hok.apart htd htz, ?_⟩
    have htt : t ∈ ts := hp.mem_iff.mpr ht
    cases ts with
    | nil => cases htt
    | cons t0 rest =>
      have et : t = t0 := by
        rcases List.mem_cons.mp htt with e | hr
        · exact e
        · have ht0 : t0 ∈ ds.filter (fun t => decide (t.2.1 ≠ 0)) := hp.mem_iff.mp List.mem_cons_self
          have hl := (List.pairwise_cons.mp hf).1 (monoOf 2 t) (List.mem_map.mpr ⟨t, hr, rfl⟩)
          have hno := SrtO.lexB_no.mp (hmax t0.1 (List.mem_map.mpr ⟨t0, ht0, rfl⟩))
          have kt := hok.keys t htd
          have k0 := hok.keys t0 (sub t0 ht0).1
          have hl' : t.1.1.toNat < t0.1.1.toNat ∨ (t.1.1.toNat = t0.1.1.toNat ∧ t.1.2.toNat < t0.1.2.toNat) := hl
          omega
      subst et
      obtain ⟨N0, hN⟩ := hend
      refine ⟨N0, fun n hn => (hN n hn).trans ?_⟩
      have hu := hok.low t htd
      have hd := hdv t htd
      show sgX t.2.1 = sgX (t.2.1 * (m / t.2.2))
      have pos : 0 < m / t.2.2 := by
        rcases hm with rfl | rfl <;> rcases hu with e | e <;> rw [e] at hd ⊢
        · decide
        · omega
        · decide
        · decide
      rw [Int.mul_comm]
      exact (sgX_mul pos).symm
theorem Settled.ends {G : Int → Int} {s z x : Int} (h : Settled G s z) (he : ∃ N0, ∀ n, N0 ≤ n → sgX (G n) = x) : s = x := by
  obtain ⟨N0, hN⟩ := he
  obtain ⟨a0, a1, _⟩ := h
  rw [← a1 (max z N0) (by omega)]
  exact hN _ (by omega)
theorem rowTs_last {rs ra : List Row} {r : Row} {n : Int} (h : (rs.map (·.1)).Pairwise (· < ·)) (e : rs = ra ++ [r]) (hn : r.1 ≤ n) : rowTs rs n = r.2 := by
  have hg : rs[ra.length]? = some r := by rw [e]; exact List.getElem?_concat_length
  have h1 := (rowIx_iff h hg).mp hn
  have h2 := rowIx_le rs n
  have el : rs.length = ra.length + 1 := by rw [e, List.length_append]; rfl
  refine rowTs_of ?_
  rw [show rowIx rs n - 1 = ra.length by omega]
  exact hg
theorem big_room {x y : Int} (hx : x ≤ 2 ^ 2000) (hy : y ≤ 2 * x + 2 ^ 80) : y < 2 ^ 2199 := by
  have e : (2 : Int) ^ 2199 = 2 ^ 199 * 2 ^ 2000 := by rw [← Int.pow_add]
  have p : (1 : Int) ≤ 2 ^ 2000 := Int.pow_pos (by decide)
  rw [e]
  generalize (2 : Int) ^ 2000 = X at *
  have e1 : (2 : Int) ^ 199 = 803469022129495137770981046170581301261101496891396417650688 := by decide
  have e2 : (2 : Int) ^ 80 = 1208925819614629174706176 := by decide
  rw [e1]
  rw [e2] at hy
  omega
theorem nat_room {z : Int} (h0 : 0 ≤ z) (h : z < 2 ^ 2199) : z.natAbs < 2 ^ 2199 := by
  have e : ((2 ^ 2199 : Nat) : Int) = (2 : Int) ^ 2199 := by rw [Int.natCast_pow]; rfl
  omega
end OG

set_option Elab.async false
set_option linter.all false
set_option maxRecDepth 100000
set_option maxHeartbeats 4000000
namespace K18
open PySem PySem.Spec PyProof.Rows L2 OG
open C8 (pss_cut pe_gc)
open OGX

def topS (i : Nat) : Stmt := PySem.Challenge.pw_outgrow_k18_figures_outgrown.main.body.getD i (.Pass ⟨0, 0, 0, 0⟩)
abbrev ssign_of : Stmt := topS 21
abbrev Nsign_of : List Str := ["number"]
theorem scsign_of : FnScope Nsign_of ["number"] (defScope ssign_of) := ⟨rfl, rfl, rfl, by decide +kernel, rfl, by decide +kernel, by decide +kernel⟩

abbrev sgreatest_divisor : Stmt := topS 22
abbrev Ngreatest_divisor : List Str := ["one", "other"]
theorem scgreatest_divisor : FnScope Ngreatest_divisor ["one", "other"] (defScope sgreatest_divisor) := ⟨rfl, rfl, rfl, by decide +kernel, rfl, by decide +kernel, by decide +kernel⟩

abbrev sleast_multiple : Stmt := topS 23
abbrev Nleast_multiple : List Str := ["numbers", "total", "number"]
theorem scleast_multiple : FnScope Nleast_multiple ["numbers"] (defScope sleast_multiple) := ⟨rfl, rfl, rfl, by decide +kernel, rfl, by decide +kernel, by decide +kernel⟩

abbrev spart_of : Stmt := topS 24
abbrev Npart_of : List Str := ["over", "under", "shared"]
theorem scpart_of : FnScope Npart_of ["over", "under"] (defScope spart_of) := ⟨rfl, rfl, rfl, by decide +kernel, rfl, by decide +kernel, by decide +kernel⟩

abbrev spart_sum : Stmt := topS 25
abbrev Npart_sum : List Str := ["one", "other"]
theorem scpart_sum : FnScope Npart_sum ["one", "other"] (defScope spart_sum) := ⟨rfl, rfl, rfl, by decide +kernel, rfl, by decide +kernel, by decide +kernel⟩

abbrev spart_less : Stmt := topS 26
abbrev Npart_less : List Str := ["one", "other"]
theorem scpart_less : FnScope Npart_less ["one", "other"] (defScope spart_less) := ⟨rfl, rfl, rfl, by decide +kernel, rfl, by decide +kernel, by decide +kernel⟩

abbrev strimmed : Stmt := topS 28
abbrev Ntrimmed : List Str := ["parts", "end"]
theorem sctrimmed : FnScope Ntrimmed ["parts"] (defScope strimmed) := ⟨rfl, rfl, rfl, by decide +kernel, rfl, by decide +kernel, by decide +kernel⟩

abbrev svalue : Stmt := topS 29
abbrev Nvalue : List Str := ["polynomial", "number", "total", "part"]
theorem scvalue : FnScope Nvalue ["polynomial", "number"] (defScope svalue) := ⟨rfl, rfl, rfl, by decide +kernel, rfl, by decide +kernel, by decide +kernel⟩

abbrev ssign_at : Stmt := topS 30
abbrev Nsign_at : List Str := ["polynomial", "number"]
theorem scsign_at : FnScope Nsign_at ["polynomial", "number"] (defScope ssign_at) := ⟨rfl, rfl, rfl, by decide +kernel, rfl, by decide +kernel, by decide +kernel⟩

abbrev svalues_from : Stmt := topS 31
abbrev Nvalues_from : List Str := ["polynomial", "first", "many", "place"]
theorem scvalues_from : FnScope Nvalues_from ["polynomial", "first", "many"] (defScope svalues_from) := ⟨rfl, rfl, rfl, by decide +kernel, rfl, by decide +kernel, by decide +kernel⟩

abbrev sgaps : Stmt := topS 32
abbrev Ngaps : List Str := ["numbers", "place"]
theorem scgaps : FnScope Ngaps ["numbers"] (defScope sgaps) := ⟨rfl, rfl, rfl, by decide +kernel, rfl, by decide +kernel, by decide +kernel⟩

abbrev sshifted : Stmt := topS 33
abbrev Nshifted : List Str := ["polynomial", "number", "parts", "done", "place"]
theorem scshifted : FnScope Nshifted ["polynomial", "number"] (defScope sshifted) := ⟨rfl, rfl, rfl, by decide +kernel, rfl, by decide +kernel, by decide +kernel⟩

abbrev sdifference : Stmt := topS 34
abbrev Ndifference : List Str := ["polynomial", "ahead", "behind"]
theorem scdifference : FnScope Ndifference ["polynomial"] (defScope sdifference) := ⟨rfl, rfl, rfl, by decide +kernel, rfl, by decide +kernel, by decide +kernel⟩

abbrev sis_steady : Stmt := topS 35
abbrev Nis_steady : List Str := ["polynomial", "low", "high", "sign", "many", "ahead", "behind", "turn"]
theorem scis_steady : FnScope Nis_steady ["polynomial", "low", "high", "sign"] (defScope sis_steady) := ⟨rfl, rfl, rfl, by decide +kernel, rfl, by decide +kernel, by decide +kernel⟩

abbrev sis_endless : Stmt := topS 36
abbrev Nis_endless : List Str := ["polynomial", "low", "sign", "ahead"]
theorem scis_endless : FnScope Nis_endless ["polynomial", "low", "sign"] (defScope sis_endless) := ⟨rfl, rfl, rfl, by decide +kernel, rfl, by decide +kernel, by decide +kernel⟩

abbrev sfirst_turned : Stmt := topS 37
abbrev Nfirst_turned : List Str := ["polynomial", "low", "high", "sign", "middle"]
theorem scfirst_turned : FnScope Nfirst_turned ["polynomial", "low", "high"] (defScope sfirst_turned) := ⟨rfl, rfl, rfl, by decide +kernel, rfl, by decide +kernel, by decide +kernel⟩

abbrev ssign_starts : Stmt := topS 38
abbrev Nsign_starts : List Str := ["polynomial", "low", "high", "last_sign", "starts"]
theorem scsign_starts : FnScope Nsign_starts ["polynomial", "low", "high"] (defScope ssign_starts) := ⟨rfl, rfl, rfl, by decide +kernel, rfl, by decide +kernel, by decide +kernel⟩

abbrev sends_of : Stmt := topS 39
abbrev Nends_of : List Str := ["starts", "high", "start"]
theorem scends_of : FnScope Nends_of ["starts", "high"] (defScope sends_of) := ⟨rfl, rfl, rfl, by decide +kernel, rfl, by decide +kernel, by decide +kernel⟩

abbrev sruns : Stmt := topS 40
abbrev Nruns : List Str := ["polynomial", "low", "high", "ladder", "starts", "rung", "finer", "first", "last"]
theorem scruns : FnScope Nruns ["polynomial", "low", "high"] (defScope sruns) := ⟨rfl, rfl, rfl, by decide +kernel, rfl, by decide +kernel, by decide +kernel⟩

abbrev srow_at : Stmt := topS 43
abbrev Nrow_at : List Str := ["rows", "size", "low", "high", "middle"]
theorem scrow_at : FnScope Nrow_at ["rows", "size"] (defScope srow_at) := ⟨rfl, rfl, rfl, by decide +kernel, rfl, by decide +kernel, by decide +kernel⟩

abbrev srow_end : Stmt := topS 44
abbrev Nrow_end : List Str := ["rows", "place"]
theorem scrow_end : FnScope Nrow_end ["rows", "place"] (defScope srow_end) := ⟨rfl, rfl, rfl, by decide +kernel, rfl, by decide +kernel, by decide +kernel⟩

abbrev sterms_less : Stmt := topS 45
abbrev Nterms_less : List Str := ["one", "other", "found", "powers", "part"]
theorem scterms_less : FnScope Nterms_less ["one", "other"] (defScope sterms_less) := ⟨rfl, rfl, rfl, by decide +kernel, rfl, by decide +kernel, by decide +kernel⟩

abbrev swhole_powers : Stmt := topS 46
abbrev Nwhole_powers : List Str := ["terms", "times", "found", "power_of_n", "figures", "polynomial", "over", "under"]
theorem scwhole_powers : FnScope Nwhole_powers ["terms"] (defScope swhole_powers) := ⟨rfl, rfl, rfl, by decide +kernel, rfl, by decide +kernel, by decide +kernel⟩

abbrev sstretches_of : Stmt := topS 47
abbrev Nstretches_of : List Str := ["one", "other", "found", "since", "terms", "row"]
theorem scstretches_of : FnScope Nstretches_of ["one", "other"] (defScope sstretches_of) := ⟨rfl, rfl, rfl, by decide +kernel, rfl, by decide +kernel, by decide +kernel⟩

abbrev sput_in : Stmt := topS 48
abbrev Nput_in : List Str := ["powers", "figures", "parts", "power_of_n", "polynomial"]
theorem scput_in : FnScope Nput_in ["powers", "figures"] (defScope sput_in) := ⟨rfl, rfl, rfl, by decide +kernel, rfl, by decide +kernel, by decide +kernel⟩

abbrev slesser_weight : Stmt := topS 49
abbrev Nlesser_weight : List Str := ["powers", "figures", "total", "power_of_n", "polynomial", "part"]
theorem sclesser_weight : FnScope Nlesser_weight ["powers", "figures"] (defScope slesser_weight) := ⟨rfl, rfl, rfl, by decide +kernel, rfl, by decide +kernel, by decide +kernel⟩

abbrev sleast_low : Stmt := topS 50
abbrev Nleast_low : List Str := ["stretch", "most", "since", "powers", "power_of_n", "polynomial"]
theorem scleast_low : FnScope Nleast_low ["stretch"] (defScope sleast_low) := ⟨rfl, rfl, rfl, by decide +kernel, rfl, by decide +kernel, by decide +kernel⟩

abbrev smay_be_low : Stmt := topS 51
abbrev Nmay_be_low : List Str := ["stretch", "figures"]
theorem scmay_be_low : FnScope Nmay_be_low ["stretch", "figures"] (defScope smay_be_low) := ⟨rfl, rfl, rfl, by decide +kernel, rfl, by decide +kernel, by decide +kernel⟩

abbrev sfirst_low : Stmt := topS 52
abbrev Nfirst_low : List Str := ["stretch", "figures"]
theorem scfirst_low : FnScope Nfirst_low ["stretch"] (defScope sfirst_low) := ⟨rfl, rfl, rfl, by decide +kernel, rfl, by decide +kernel, by decide +kernel⟩

abbrev sblock_sign : Stmt := topS 53
abbrev Nblock_sign : List Str := ["powers", "figures", "power_of_n", "polynomial", "sign"]
theorem scblock_sign : FnScope Nblock_sign ["powers", "figures"] (defScope sblock_sign) := ⟨rfl, rfl, rfl, by decide +kernel, rfl, by decide +kernel, by decide +kernel⟩

abbrev ssettled : Stmt := topS 55
abbrev Nsettled : List Str := ["one", "other", "stretches", "powers", "lead", "sign", "size", "falling"]
theorem scsettled : FnScope Nsettled ["one", "other"] (defScope ssettled) := ⟨rfl, rfl, rfl, by decide +kernel, rfl, by decide +kernel, by decide +kernel⟩

abbrev ssettled_rows : Stmt := topS 56
abbrev Nsettled_rows : List Str := ["stretches", "sign", "low", "rows", "wrong_figures", "figures", "first", "last", "powers", "more", "wrong"]
theorem scsettled_rows : FnScope Nsettled_rows ["stretches", "sign"] (defScope ssettled_rows) := ⟨rfl, rfl, rfl, by decide +kernel, rfl, by decide +kernel, by decide +kernel⟩

abbrev scheck_near : Stmt := topS 57
abbrev Ncheck_near : List Str := ["figures"]
theorem sccheck_near : FnScope Ncheck_near ["figures"] (defScope scheck_near) := ⟨rfl, rfl, rfl, by decide +kernel, rfl, by decide +kernel, by decide +kernel⟩

abbrev sfigures_rows : Stmt := topS 58
abbrev Nfigures_rows : List Str := ["powers", "low", "sign", "lead", "end", "rows", "first", "last", "found", "figures"]
theorem scfigures_rows : FnScope Nfigures_rows ["powers", "low", "sign"] (defScope sfigures_rows) := ⟨rfl, rfl, rfl, by decide +kernel, rfl, by decide +kernel, by decide +kernel⟩

abbrev ssizes_rows : Stmt := topS 59
abbrev Nsizes_rows : List Str := ["polynomial", "low", "high", "sign", "rows", "first", "last", "found"]
theorem scsizes_rows : FnScope Nsizes_rows ["polynomial", "low", "high", "sign"] (defScope ssizes_rows) := ⟨rfl, rfl, rfl, by decide +kernel, rfl, by decide +kernel, by decide +kernel⟩

abbrev scells : Stmt := topS 60
abbrev Ncells : List Str := ["low", "high", "found", "figures", "last"]
theorem sccells : FnScope Ncells ["low", "high"] (defScope scells) := ⟨rfl, rfl, rfl, by decide +kernel, rfl, by decide +kernel, by decide +kernel⟩

abbrev sfalling_cells : Stmt := topS 61
abbrev Nfalling_cells : List Str := ["stretches", "high", "found", "place", "end", "since", "powers", "figures", "first", "last"]
theorem scfalling_cells : FnScope Nfalling_cells ["stretches", "high"] (defScope sfalling_cells) := ⟨rfl, rfl, rfl, by decide +kernel, rfl, by decide +kernel, by decide +kernel⟩

abbrev salike_from : Stmt := topS 62
abbrev Nalike_from : List Str := ["stretches", "figures", "first", "last", "powers", "wrong"]
theorem scalike_from : FnScope Nalike_from ["stretches"] (defScope salike_from) := ⟨rfl, rfl, rfl, by decide +kernel, rfl, by decide +kernel, by decide +kernel⟩

abbrev slast_unlike : Stmt := topS 63
abbrev Nlast_unlike : List Str := ["polynomial", "low", "high", "number"]
theorem sclast_unlike : FnScope Nlast_unlike ["polynomial", "low", "high"] (defScope slast_unlike) := ⟨rfl, rfl, rfl, by decide +kernel, rfl, by decide +kernel, by decide +kernel⟩

abbrev scompared : Stmt := topS 65
abbrev Ncompared : List Str := ["one", "other", "word", "size", "rows"]
theorem sccompared : FnScope Ncompared ["one", "other"] (defScope scompared) := ⟨rfl, rfl, rfl, by decide +kernel, rfl, by decide +kernel, by decide +kernel⟩

abbrev sl_begin : Stmt := topS 67
abbrev Nl_begin : List Str := ["_law_script"]
theorem scl_begin : FnScope Nl_begin ["_law_script"] (defScope sl_begin) := ⟨rfl, rfl, rfl, by decide +kernel, rfl, by decide +kernel, by decide +kernel⟩

abbrev sl_take : Stmt := topS 68
abbrev Nl_take : List Str := ["_law_draw", "_law_sides", "_law_cell", "_law_got"]
theorem scl_take : FnScope Nl_take ["_law_draw", "_law_sides"] (defScope sl_take) := ⟨rfl, rfl, rfl, by decide +kernel, rfl, by decide +kernel, by decide +kernel⟩

abbrev sl_gcd : Stmt := topS 69
abbrev Nl_gcd : List Str := ["_law_a", "_law_b"]
theorem scl_gcd : FnScope Nl_gcd ["_law_a", "_law_b"] (defScope sl_gcd) := ⟨rfl, rfl, rfl, by decide +kernel, rfl, by decide +kernel, by decide +kernel⟩

abbrev sl_lowest : Stmt := topS 70
abbrev Nl_lowest : List Str := ["_law_over", "_law_under", "_law_by"]
theorem scl_lowest : FnScope Nl_lowest ["_law_over", "_law_under"] (defScope sl_lowest) := ⟨rfl, rfl, rfl, by decide +kernel, rfl, by decide +kernel, by decide +kernel⟩

abbrev sl_terms : Stmt := topS 71
abbrev Nl_terms : List Str := ["_law_draw", "_law_top", "_law_deep", "_law_wide", "_law_found", "_law_k", "_law_over", "_law_key"]
theorem scl_terms : FnScope Nl_terms ["_law_draw", "_law_top", "_law_deep", "_law_wide"] (defScope sl_terms) := ⟨rfl, rfl, rfl, by decide +kernel, rfl, by decide +kernel, by decide +kernel⟩

abbrev sl_drawn_sums : Stmt := topS 72
abbrev Nl_drawn_sums : List Str := ["_law_draw", "_law_top", "_law_deep", "_law_wide", "_law_found", "_law_k"]
theorem scl_drawn_sums : FnScope Nl_drawn_sums ["_law_draw", "_law_top", "_law_deep", "_law_wide"] (defScope sl_drawn_sums) := ⟨rfl, rfl, rfl, by decide +kernel, rfl, by decide +kernel, by decide +kernel⟩

abbrev sl_great_sums : Stmt := topS 73
abbrev Nl_great_sums : List Str := ["_law_draw", "_law_wide", "_law_found", "_law_since", "_law_k", "_law_some", "_law_turn", "_law_over", "_law_key"]
theorem scl_great_sums : FnScope Nl_great_sums ["_law_draw", "_law_wide"] (defScope sl_great_sums) := ⟨rfl, rfl, rfl, by decide +kernel, rfl, by decide +kernel, by decide +kernel⟩

abbrev sl_class : Stmt := topS 74
abbrev Nl_class : List Str := ["_law_e"]
theorem scl_class : FnScope Nl_class ["_law_e"] (defScope sl_class) := ⟨rfl, rfl, rfl, by decide +kernel, rfl, by decide +kernel, by decide +kernel⟩

abbrev sl_tried : Stmt := topS 75
abbrev Nl_tried : List Str := ["_law_ask", "_law_e"]
theorem scl_tried : FnScope Nl_tried ["_law_ask"] (defScope sl_tried) := ⟨rfl, rfl, rfl, by decide +kernel, rfl, by decide +kernel, by decide +kernel⟩

abbrev sl_whole : Stmt := topS 76
abbrev Nl_whole : List Str := ["_law_terms_here", "_law_by", "_law_key", "_law_found"]
theorem scl_whole : FnScope Nl_whole ["_law_terms_here"] (defScope sl_whole) := ⟨rfl, rfl, rfl, by decide +kernel, rfl, by decide +kernel, by decide +kernel⟩

abbrev sl_left_over : Stmt := topS 77
abbrev Nl_left_over : List Str := ["_law_one", "_law_other", "_law_found", "_law_key", "_law_part", "_law_over", "_law_under_it"]
theorem scl_left_over : FnScope Nl_left_over ["_law_one", "_law_other"] (defScope sl_left_over) := ⟨rfl, rfl, rfl, by decide +kernel, rfl, by decide +kernel, by decide +kernel⟩

abbrev sl_signum : Stmt := topS 78
abbrev Nl_signum : List Str := ["_law_number"]
theorem scl_signum : FnScope Nl_signum ["_law_number"] (defScope sl_signum) := ⟨rfl, rfl, rfl, by decide +kernel, rfl, by decide +kernel, by decide +kernel⟩

abbrev sl_int : Stmt := topS 79
abbrev Nl_int : List Str := ["_law_thing"]
theorem scl_int : FnScope Nl_int ["_law_thing"] (defScope sl_int) := ⟨rfl, rfl, rfl, by decide +kernel, rfl, by decide +kernel, by decide +kernel⟩

abbrev sl_raised : Stmt := topS 80
abbrev Nl_raised : List Str := ["_law_part", "_law_upto", "_law_found", "_law_k"]
theorem scl_raised : FnScope Nl_raised ["_law_part", "_law_upto"] (defScope sl_raised) := ⟨rfl, rfl, rfl, by decide +kernel, rfl, by decide +kernel, by decide +kernel⟩

abbrev sl_sums_at : Stmt := topS 81
abbrev Nl_sums_at : List Str := ["_law_sums", "_law_size", "_law_terms_here", "_law_since", "_law_some", "_law_over", "_law_under", "_law_part", "_law_more", "_law_power", "_law_figures"]
theorem scl_sums_at : FnScope Nl_sums_at ["_law_sums", "_law_size"] (defScope sl_sums_at) := ⟨rfl, rfl, rfl, by decide +kernel, rfl, by decide +kernel, by decide +kernel⟩

abbrev sl_sign_at : Stmt := topS 82
abbrev Nl_sign_at : List Str := ["_law_one", "_law_other", "_law_size", "_law_a", "_law_b"]
theorem scl_sign_at : FnScope Nl_sign_at ["_law_one", "_law_other", "_law_size"] (defScope sl_sign_at) := ⟨rfl, rfl, rfl, by decide +kernel, rfl, by decide +kernel, by decide +kernel⟩

abbrev slaw : Stmt := topS 83
abbrev Nlaw : List Str := ["_law_script", "_law_draw", "_law_words", "_law_turn", "_law_wide", "_law_one", "_law_other", "_law_last", "_law_sign", "_law_size", "_law_sizes", "_law_figures", "_law_word", "_law_found", "_law_at"]
theorem sclaw : FnScope Nlaw ["_law_script"] (defScope slaw) := ⟨rfl, rfl, rfl, by decide +kernel, rfl, by decide +kernel, by decide +kernel⟩

structure Tops (K : PySem.W.Frag) (mg : Str → Option Value) where
  fsign_of : Addr
  dsign_of : FuncData
  Fsign_of : Fun K "sign_of" "sign_of" ssign_of fsign_of dsign_of
  gsign_of : mg "sign_of" = some (.ref fsign_of)
  fgreatest_divisor : Addr
  dgreatest_divisor : FuncData
  Fgreatest_divisor : Fun K "greatest_divisor" "greatest_divisor" sgreatest_divisor fgreatest_divisor dgreatest_divisor
  ggreatest_divisor : mg "greatest_divisor" = some (.ref fgreatest_divisor)
  fleast_multiple : Addr
  dleast_multiple : FuncData
  Fleast_multiple : Fun K "least_multiple" "least_multiple" sleast_multiple fleast_multiple dleast_multiple
  gleast_multiple : mg "least_multiple" = some (.ref fleast_multiple)
  fpart_of : Addr
  dpart_of : FuncData
  Fpart_of : Fun K "part_of" "part_of" spart_of fpart_of dpart_of
  gpart_of : mg "part_of" = some (.ref fpart_of)
  fpart_sum : Addr
  dpart_sum : FuncData
  Fpart_sum : Fun K "part_sum" "part_sum" spart_sum fpart_sum dpart_sum
  gpart_sum : mg "part_sum" = some (.ref fpart_sum)
  fpart_less : Addr
  dpart_less : FuncData
  Fpart_less : Fun K "part_less" "part_less" spart_less fpart_less dpart_less
  gpart_less : mg "part_less" = some (.ref fpart_less)
  ftrimmed : Addr
  dtrimmed : FuncData
  Ftrimmed : Fun K "trimmed" "trimmed" strimmed ftrimmed dtrimmed
  gtrimmed : mg "trimmed" = some (.ref ftrimmed)
  fvalue : Addr
  dvalue : FuncData
  Fvalue : Fun K "value" "value" svalue fvalue dvalue
  gvalue : mg "value" = some (.ref fvalue)
  fsign_at : Addr
  dsign_at : FuncData
  Fsign_at : Fun K "sign_at" "sign_at" ssign_at fsign_at dsign_at
  gsign_at : mg "sign_at" = some (.ref fsign_at)
  fvalues_from : Addr
  dvalues_from : FuncData
  Fvalues_from : Fun K "values_from" "values_from" svalues_from fvalues_from dvalues_from
  gvalues_from : mg "values_from" = some (.ref fvalues_from)
  fgaps : Addr
  dgaps : FuncData
  Fgaps : Fun K "gaps" "gaps" sgaps fgaps dgaps
  ggaps : mg "gaps" = some (.ref fgaps)
  fshifted : Addr
  dshifted : FuncData
  Fshifted : Fun K "shifted" "shifted" sshifted fshifted dshifted
  gshifted : mg "shifted" = some (.ref fshifted)
  fdifference : Addr
  ddifference : FuncData
  Fdifference : Fun K "difference" "difference" sdifference fdifference ddifference
  gdifference : mg "difference" = some (.ref fdifference)
  fis_steady : Addr
  dis_steady : FuncData
  Fis_steady : Fun K "is_steady" "is_steady" sis_steady fis_steady dis_steady
  gis_steady : mg "is_steady" = some (.ref fis_steady)
  fis_endless : Addr
  dis_endless : FuncData
  Fis_endless : Fun K "is_endless" "is_endless" sis_endless fis_endless dis_endless
  gis_endless : mg "is_endless" = some (.ref fis_endless)
  ffirst_turned : Addr
  dfirst_turned : FuncData
  Ffirst_turned : Fun K "first_turned" "first_turned" sfirst_turned ffirst_turned dfirst_turned
  gfirst_turned : mg "first_turned" = some (.ref ffirst_turned)
  fsign_starts : Addr
  dsign_starts : FuncData
  Fsign_starts : Fun K "sign_starts" "sign_starts" ssign_starts fsign_starts dsign_starts
  gsign_starts : mg "sign_starts" = some (.ref fsign_starts)
  fends_of : Addr
  dends_of : FuncData
  Fends_of : Fun K "ends_of" "ends_of" sends_of fends_of dends_of
  gends_of : mg "ends_of" = some (.ref fends_of)
  fruns : Addr
  druns : FuncData
  Fruns : Fun K "runs" "runs" sruns fruns druns
  gruns : mg "runs" = some (.ref fruns)
  frow_at : Addr
  drow_at : FuncData
  Frow_at : Fun K "row_at" "row_at" srow_at frow_at drow_at
  grow_at : mg "row_at" = some (.ref frow_at)
  frow_end : Addr
  drow_end : FuncData
  Frow_end : Fun K "row_end" "row_end" srow_end frow_end drow_end
  grow_end : mg "row_end" = some (.ref frow_end)
  fterms_less : Addr
  dterms_less : FuncData
  Fterms_less : Fun K "terms_less" "terms_less" sterms_less fterms_less dterms_less
  gterms_less : mg "terms_less" = some (.ref fterms_less)
  fwhole_powers : Addr
  dwhole_powers : FuncData
  Fwhole_powers : Fun K "whole_powers" "whole_powers" swhole_powers fwhole_powers dwhole_powers
  gwhole_powers : mg "whole_powers" = some (.ref fwhole_powers)
  fstretches_of : Addr
  dstretches_of : FuncData
  Fstretches_of : Fun K "stretches_of" "stretches_of" sstretches_of fstretches_of dstretches_of
  gstretches_of : mg "stretches_of" = some (.ref fstretches_of)
  fput_in : Addr
  dput_in : FuncData
  Fput_in : Fun K "put_in" "put_in" sput_in fput_in dput_in
  gput_in : mg "put_in" = some (.ref fput_in)
  flesser_weight : Addr
  dlesser_weight : FuncData
  Flesser_weight : Fun K "lesser_weight" "lesser_weight" slesser_weight flesser_weight dlesser_weight
  glesser_weight : mg "lesser_weight" = some (.ref flesser_weight)
  fleast_low : Addr
  dleast_low : FuncData
  Fleast_low : Fun K "least_low" "least_low" sleast_low fleast_low dleast_low
  gleast_low : mg "least_low" = some (.ref fleast_low)
  fmay_be_low : Addr
  dmay_be_low : FuncData
  Fmay_be_low : Fun K "may_be_low" "may_be_low" smay_be_low fmay_be_low dmay_be_low
  gmay_be_low : mg "may_be_low" = some (.ref fmay_be_low)
  ffirst_low : Addr
  dfirst_low : FuncData
  Ffirst_low : Fun K "first_low" "first_low" sfirst_low ffirst_low dfirst_low
  gfirst_low : mg "first_low" = some (.ref ffirst_low)
  fblock_sign : Addr
  dblock_sign : FuncData
  Fblock_sign : Fun K "block_sign" "block_sign" sblock_sign fblock_sign dblock_sign
  gblock_sign : mg "block_sign" = some (.ref fblock_sign)
  fsettled : Addr
  dsettled : FuncData
  Fsettled : Fun K "settled" "settled" ssettled fsettled dsettled
  gsettled : mg "settled" = some (.ref fsettled)
  fsettled_rows : Addr
  dsettled_rows : FuncData
  Fsettled_rows : Fun K "settled_rows" "settled_rows" ssettled_rows fsettled_rows dsettled_rows
  gsettled_rows : mg "settled_rows" = some (.ref fsettled_rows)
  fcheck_near : Addr
  dcheck_near : FuncData
  Fcheck_near : Fun K "check_near" "check_near" scheck_near fcheck_near dcheck_near
  gcheck_near : mg "check_near" = some (.ref fcheck_near)
  ffigures_rows : Addr
  dfigures_rows : FuncData
  Ffigures_rows : Fun K "figures_rows" "figures_rows" sfigures_rows ffigures_rows dfigures_rows
  gfigures_rows : mg "figures_rows" = some (.ref ffigures_rows)
  fsizes_rows : Addr
  dsizes_rows : FuncData
  Fsizes_rows : Fun K "sizes_rows" "sizes_rows" ssizes_rows fsizes_rows dsizes_rows
  gsizes_rows : mg "sizes_rows" = some (.ref fsizes_rows)
  fcells : Addr
  dcells : FuncData
  Fcells : Fun K "cells" "cells" scells fcells dcells
  gcells : mg "cells" = some (.ref fcells)
  ffalling_cells : Addr
  dfalling_cells : FuncData
  Ffalling_cells : Fun K "falling_cells" "falling_cells" sfalling_cells ffalling_cells dfalling_cells
  gfalling_cells : mg "falling_cells" = some (.ref ffalling_cells)
  falike_from : Addr
  dalike_from : FuncData
  Falike_from : Fun K "alike_from" "alike_from" salike_from falike_from dalike_from
  galike_from : mg "alike_from" = some (.ref falike_from)
  flast_unlike : Addr
  dlast_unlike : FuncData
  Flast_unlike : Fun K "last_unlike" "last_unlike" slast_unlike flast_unlike dlast_unlike
  glast_unlike : mg "last_unlike" = some (.ref flast_unlike)
  fcompared : Addr
  dcompared : FuncData
  Fcompared : Fun K "compared" "compared" scompared fcompared dcompared
  gcompared : mg "compared" = some (.ref fcompared)
  fl_begin : Addr
  dl_begin : FuncData
  Fl_begin : Fun K "_law_begin" "_law_begin" sl_begin fl_begin dl_begin
  gl_begin : mg "_law_begin" = some (.ref fl_begin)
  fl_take : Addr
  dl_take : FuncData
  Fl_take : Fun K "_law_take" "_law_take" sl_take fl_take dl_take
  gl_take : mg "_law_take" = some (.ref fl_take)
  fl_gcd : Addr
  dl_gcd : FuncData
  Fl_gcd : Fun K "_law_gcd" "_law_gcd" sl_gcd fl_gcd dl_gcd
  gl_gcd : mg "_law_gcd" = some (.ref fl_gcd)
  fl_lowest : Addr
  dl_lowest : FuncData
  Fl_lowest : Fun K "_law_lowest" "_law_lowest" sl_lowest fl_lowest dl_lowest
  gl_lowest : mg "_law_lowest" = some (.ref fl_lowest)
  fl_terms : Addr
  dl_terms : FuncData
  Fl_terms : Fun K "_law_terms" "_law_terms" sl_terms fl_terms dl_terms
  gl_terms : mg "_law_terms" = some (.ref fl_terms)
  fl_drawn_sums : Addr
  dl_drawn_sums : FuncData
  Fl_drawn_sums : Fun K "_law_drawn_sums" "_law_drawn_sums" sl_drawn_sums fl_drawn_sums dl_drawn_sums
  gl_drawn_sums : mg "_law_drawn_sums" = some (.ref fl_drawn_sums)
  fl_great_sums : Addr
  dl_great_sums : FuncData
  Fl_great_sums : Fun K "_law_great_sums" "_law_great_sums" sl_great_sums fl_great_sums dl_great_sums
  gl_great_sums : mg "_law_great_sums" = some (.ref fl_great_sums)
  fl_class : Addr
  dl_class : FuncData
  Fl_class : Fun K "_law_class" "_law_class" sl_class fl_class dl_class
  gl_class : mg "_law_class" = some (.ref fl_class)
  fl_tried : Addr
  dl_tried : FuncData
  Fl_tried : Fun K "_law_tried" "_law_tried" sl_tried fl_tried dl_tried
  gl_tried : mg "_law_tried" = some (.ref fl_tried)
  fl_whole : Addr
  dl_whole : FuncData
  Fl_whole : Fun K "_law_whole" "_law_whole" sl_whole fl_whole dl_whole
  gl_whole : mg "_law_whole" = some (.ref fl_whole)
  fl_left_over : Addr
  dl_left_over : FuncData
  Fl_left_over : Fun K "_law_left_over" "_law_left_over" sl_left_over fl_left_over dl_left_over
  gl_left_over : mg "_law_left_over" = some (.ref fl_left_over)
  fl_signum : Addr
  dl_signum : FuncData
  Fl_signum : Fun K "_law_signum" "_law_signum" sl_signum fl_signum dl_signum
  gl_signum : mg "_law_signum" = some (.ref fl_signum)
  fl_int : Addr
  dl_int : FuncData
  Fl_int : Fun K "_law_int" "_law_int" sl_int fl_int dl_int
  gl_int : mg "_law_int" = some (.ref fl_int)
  fl_raised : Addr
  dl_raised : FuncData
  Fl_raised : Fun K "_law_raised" "_law_raised" sl_raised fl_raised dl_raised
  gl_raised : mg "_law_raised" = some (.ref fl_raised)
  fl_sums_at : Addr
  dl_sums_at : FuncData
  Fl_sums_at : Fun K "_law_sums_at" "_law_sums_at" sl_sums_at fl_sums_at dl_sums_at
  gl_sums_at : mg "_law_sums_at" = some (.ref fl_sums_at)
  fl_sign_at : Addr
  dl_sign_at : FuncData
  Fl_sign_at : Fun K "_law_sign_at" "_law_sign_at" sl_sign_at fl_sign_at dl_sign_at
  gl_sign_at : mg "_law_sign_at" = some (.ref fl_sign_at)
  flaw : Addr
  dlaw : FuncData
  Flaw : Fun K "law" "law" slaw flaw dlaw
  glaw : mg "law" = some (.ref flaw)
  mabs : mg "abs" = none
  mall : mg "all" = none
  mbool : mg "bool" = none
  menumerate : mg "enumerate" = none
  mint : mg "int" = none
  misinstance : mg "isinstance" = none
  mlen : mg "len" = none
  mlist : mg "list" = none
  mmax : mg "max" = none
  mmin : mg "min" = none
  mrange : mg "range" = none
  mreversed : mg "reversed" = none
  mset : mg "set" = none
  msorted : mg "sorted" = none
  mzip : mg "zip" = none
  aNOUGHT : Addr
  cNOUGHT : ∃ u, mg "NOUGHT" = some u ∧ RelV (.ref aNOUGHT) u
  tNOUGHT : ∀ H : Hp, SqT K H aNOUGHT [.int 0, .int 1]
  cMOST_SIZE_FIGURES : ∃ u, mg "MOST_SIZE_FIGURES" = some u ∧ RelV (.int 2000) u
theorem Tops.bsign_of {K : PySem.W.Frag} {mg : Str → Option Value} (T : Tops K mg) : Binds K T.dsign_of ["number"] [] := T.Fsign_of.binds (ps := ["number"]) fun _ _ _ _ _ _ us hl => match us, hl with | [_], _ => rfl
theorem Tops.bgreatest_divisor {K : PySem.W.Frag} {mg : Str → Option Value} (T : Tops K mg) : Binds K T.dgreatest_divisor ["one", "other"] [] := T.Fgreatest_divisor.binds (ps := ["one", "other"]) fun _ _ _ _ _ _ us hl => match us, hl with | [_, _], _ => rfl
theorem Tops.bleast_multiple {K : PySem.W.Frag} {mg : Str → Option Value} (T : Tops K mg) : Binds K T.dleast_multiple ["numbers"] [] := T.Fleast_multiple.binds (ps := ["numbers"]) fun _ _ _ _ _ _ us hl => match us, hl with | [_], _ => rfl
theorem Tops.bpart_of {K : PySem.W.Frag} {mg : Str → Option Value} (T : Tops K mg) : Binds K T.dpart_of ["over", "under"] [] := T.Fpart_of.binds (ps := ["over", "under"]) fun _ _ _ _ _ _ us hl => match us, hl with | [_, _], _ => rfl
theorem Tops.bpart_sum {K : PySem.W.Frag} {mg : Str → Option Value} (T : Tops K mg) : Binds K T.dpart_sum ["one", "other"] [] := T.Fpart_sum.binds (ps := ["one", "other"]) fun _ _ _ _ _ _ us hl => match us, hl with | [_, _], _ => rfl
theorem Tops.bpart_less {K : PySem.W.Frag} {mg : Str → Option Value} (T : Tops K mg) : Binds K T.dpart_less ["one", "other"] [] := T.Fpart_less.binds (ps := ["one", "other"]) fun _ _ _ _ _ _ us hl => match us, hl with | [_, _], _ => rfl
theorem Tops.btrimmed {K : PySem.W.Frag} {mg : Str → Option Value} (T : Tops K mg) : Binds K T.dtrimmed ["parts"] [] := T.Ftrimmed.binds (ps := ["parts"]) fun _ _ _ _ _ _ us hl => match us, hl with | [_], _ => rfl
theorem Tops.bvalue {K : PySem.W.Frag} {mg : Str → Option Value} (T : Tops K mg) : Binds K T.dvalue ["polynomial", "number"] [] := T.Fvalue.binds (ps := ["polynomial", "number"]) fun _ _ _ _ _ _ us hl => match us, hl with | [_, _], _ => rfl
theorem Tops.bsign_at {K : PySem.W.Frag} {mg : Str → Option Value} (T : Tops K mg) : Binds K T.dsign_at ["polynomial", "number"] [] := T.Fsign_at.binds (ps := ["polynomial", "number"]) fun _ _ _ _ _ _ us hl => match us, hl with | [_, _], _ => rfl
theorem Tops.bvalues_from {K : PySem.W.Frag} {mg : Str → Option Value} (T : Tops K mg) : Binds K T.dvalues_from ["polynomial", "first", "many"] [] := T.Fvalues_from.binds (ps := ["polynomial", "first", "many"]) fun _ _ _ _ _ _ us hl => match us, hl with | [_, _, _], _ => rfl
theorem Tops.bgaps {K : PySem.W.Frag} {mg : Str → Option Value} (T : Tops K mg) : Binds K T.dgaps ["numbers"] [] := T.Fgaps.binds (ps := ["numbers"]) fun _ _ _ _ _ _ us hl => match us, hl with | [_], _ => rfl
theorem Tops.bshifted {K : PySem.W.Frag} {mg : Str → Option Value} (T : Tops K mg) : Binds K T.dshifted ["polynomial", "number"] [] := T.Fshifted.binds (ps := ["polynomial", "number"]) fun _ _ _ _ _ _ us hl => match us, hl with | [_, _], _ => rfl
theorem Tops.bdifference {K : PySem.W.Frag} {mg : Str → Option Value} (T : Tops K mg) : Binds K T.ddifference ["polynomial"] [] := T.Fdifference.binds (ps := ["polynomial"]) fun _ _ _ _ _ _ us hl => match us, hl with | [_], _ => rfl
theorem Tops.bis_steady {K : PySem.W.Frag} {mg : Str → Option Value} (T : Tops K mg) : Binds K T.dis_steady ["polynomial", "low", "high", "sign"] [] := T.Fis_steady.binds (ps := ["polynomial", "low", "high", "sign"]) fun _ _ _ _ _ _ us hl => match us, hl with | [_, _, _, _], _ => rfl
theorem Tops.bis_endless {K : PySem.W.Frag} {mg : Str → Option Value} (T : Tops K mg) : Binds K T.dis_endless ["polynomial", "low", "sign"] [] := T.Fis_endless.binds (ps := ["polynomial", "low", "sign"]) fun _ _ _ _ _ _ us hl => match us, hl with | [_, _, _], _ => rfl
theorem Tops.bfirst_turned {K : PySem.W.Frag} {mg : Str → Option Value} (T : Tops K mg) : Binds K T.dfirst_turned ["polynomial", "low", "high"] [] := T.Ffirst_turned.binds (ps := ["polynomial", "low", "high"]) fun _ _ _ _ _ _ us hl => match us, hl with | [_, _, _], _ => rfl
theorem Tops.bsign_starts {K : PySem.W.Frag} {mg : Str → Option Value} (T : Tops K mg) : Binds K T.dsign_starts ["polynomial", "low", "high"] [] := T.Fsign_starts.binds (ps := ["polynomial", "low", "high"]) fun _ _ _ _ _ _ us hl => match us, hl with | [_, _, _], _ => rfl
theorem Tops.bends_of {K : PySem.W.Frag} {mg : Str → Option Value} (T : Tops K mg) : Binds K T.dends_of ["starts", "high"] [] := T.Fends_of.binds (ps := ["starts", "high"]) fun _ _ _ _ _ _ us hl => match us, hl with | [_, _], _ => rfl
theorem Tops.bruns {K : PySem.W.Frag} {mg : Str → Option Value} (T : Tops K mg) : Binds K T.druns ["polynomial", "low", "high"] [] := T.Fruns.binds (ps := ["polynomial", "low", "high"]) fun _ _ _ _ _ _ us hl => match us, hl with | [_, _, _], _ => rfl
theorem Tops.brow_at {K : PySem.W.Frag} {mg : Str → Option Value} (T : Tops K mg) : Binds K T.drow_at ["rows", "size"] [] := T.Frow_at.binds (ps := ["rows", "size"]) fun _ _ _ _ _ _ us hl => match us, hl with | [_, _], _ => rfl
theorem Tops.brow_end {K : PySem.W.Frag} {mg : Str → Option Value} (T : Tops K mg) : Binds K T.drow_end ["rows", "place"] [] := T.Frow_end.binds (ps := ["rows", "place"]) fun _ _ _ _ _ _ us hl => match us, hl with | [_, _], _ => rfl
theorem Tops.bterms_less {K : PySem.W.Frag} {mg : Str → Option Value} (T : Tops K mg) : Binds K T.dterms_less ["one", "other"] [] := T.Fterms_less.binds (ps := ["one", "other"]) fun _ _ _ _ _ _ us hl => match us, hl with | [_, _], _ => rfl
theorem Tops.bwhole_powers {K : PySem.W.Frag} {mg : Str → Option Value} (T : Tops K mg) : Binds K T.dwhole_powers ["terms"] [] := T.Fwhole_powers.binds (ps := ["terms"]) fun _ _ _ _ _ _ us hl => match us, hl with | [_], _ => rfl
theorem Tops.bstretches_of {K : PySem.W.Frag} {mg : Str → Option Value} (T : Tops K mg) : Binds K T.dstretches_of ["one", "other"] [] := T.Fstretches_of.binds (ps := ["one", "other"]) fun _ _ _ _ _ _ us hl => match us, hl with | [_, _], _ => rfl
theorem Tops.bput_in {K : PySem.W.Frag} {mg : Str → Option Value} (T : Tops K mg) : Binds K T.dput_in ["powers", "figures"] [] := T.Fput_in.binds (ps := ["powers", "figures"]) fun _ _ _ _ _ _ us hl => match us, hl with | [_, _], _ => rfl
theorem Tops.blesser_weight {K : PySem.W.Frag} {mg : Str → Option Value} (T : Tops K mg) : Binds K T.dlesser_weight ["powers", "figures"] [] := T.Flesser_weight.binds (ps := ["powers", "figures"]) fun _ _ _ _ _ _ us hl => match us, hl with | [_, _], _ => rfl
theorem Tops.bleast_low {K : PySem.W.Frag} {mg : Str → Option Value} (T : Tops K mg) : Binds K T.dleast_low ["stretch"] [] := T.Fleast_low.binds (ps := ["stretch"]) fun _ _ _ _ _ _ us hl => match us, hl with | [_], _ => rfl
theorem Tops.bmay_be_low {K : PySem.W.Frag} {mg : Str → Option Value} (T : Tops K mg) : Binds K T.dmay_be_low ["stretch", "figures"] [] := T.Fmay_be_low.binds (ps := ["stretch", "figures"]) fun _ _ _ _ _ _ us hl => match us, hl with | [_, _], _ => rfl
theorem Tops.bfirst_low {K : PySem.W.Frag} {mg : Str → Option Value} (T : Tops K mg) : Binds K T.dfirst_low ["stretch"] [] := T.Ffirst_low.binds (ps := ["stretch"]) fun _ _ _ _ _ _ us hl => match us, hl with | [_], _ => rfl
theorem Tops.bblock_sign {K : PySem.W.Frag} {mg : Str → Option Value} (T : Tops K mg) : Binds K T.dblock_sign ["powers", "figures"] [] := T.Fblock_sign.binds (ps := ["powers", "figures"]) fun _ _ _ _ _ _ us hl => match us, hl with | [_, _], _ => rfl
theorem Tops.bsettled {K : PySem.W.Frag} {mg : Str → Option Value} (T : Tops K mg) : Binds K T.dsettled ["one", "other"] [] := T.Fsettled.binds (ps := ["one", "other"]) fun _ _ _ _ _ _ us hl => match us, hl with | [_, _], _ => rfl
theorem Tops.bsettled_rows {K : PySem.W.Frag} {mg : Str → Option Value} (T : Tops K mg) : Binds K T.dsettled_rows ["stretches", "sign"] [] := T.Fsettled_rows.binds (ps := ["stretches", "sign"]) fun _ _ _ _ _ _ us hl => match us, hl with | [_, _], _ => rfl
theorem Tops.bcheck_near {K : PySem.W.Frag} {mg : Str → Option Value} (T : Tops K mg) : Binds K T.dcheck_near ["figures"] [] := T.Fcheck_near.binds (ps := ["figures"]) fun _ _ _ _ _ _ us hl => match us, hl with | [_], _ => rfl
theorem Tops.bfigures_rows {K : PySem.W.Frag} {mg : Str → Option Value} (T : Tops K mg) : Binds K T.dfigures_rows ["powers", "low", "sign"] [] := T.Ffigures_rows.binds (ps := ["powers", "low", "sign"]) fun _ _ _ _ _ _ us hl => match us, hl with | [_, _, _], _ => rfl
theorem Tops.bsizes_rows {K : PySem.W.Frag} {mg : Str → Option Value} (T : Tops K mg) : Binds K T.dsizes_rows ["polynomial", "low", "high", "sign"] [] := T.Fsizes_rows.binds (ps := ["polynomial", "low", "high", "sign"]) fun _ _ _ _ _ _ us hl => match us, hl with | [_, _, _, _], _ => rfl
theorem Tops.bcells {K : PySem.W.Frag} {mg : Str → Option Value} (T : Tops K mg) : Binds K T.dcells ["low", "high"] [] := T.Fcells.binds (ps := ["low", "high"]) fun _ _ _ _ _ _ us hl => match us, hl with | [_, _], _ => rfl
theorem Tops.bfalling_cells {K : PySem.W.Frag} {mg : Str → Option Value} (T : Tops K mg) : Binds K T.dfalling_cells ["stretches", "high"] [] := T.Ffalling_cells.binds (ps := ["stretches", "high"]) fun _ _ _ _ _ _ us hl => match us, hl with | [_, _], _ => rfl
theorem Tops.balike_from {K : PySem.W.Frag} {mg : Str → Option Value} (T : Tops K mg) : Binds K T.dalike_from ["stretches"] [] := T.Falike_from.binds (ps := ["stretches"]) fun _ _ _ _ _ _ us hl => match us, hl with | [_], _ => rfl
theorem Tops.blast_unlike {K : PySem.W.Frag} {mg : Str → Option Value} (T : Tops K mg) : Binds K T.dlast_unlike ["polynomial", "low", "high"] [] := T.Flast_unlike.binds (ps := ["polynomial", "low", "high"]) fun _ _ _ _ _ _ us hl => match us, hl with | [_, _, _], _ => rfl
theorem Tops.bcompared {K : PySem.W.Frag} {mg : Str → Option Value} (T : Tops K mg) : Binds K T.dcompared ["one", "other"] [] := T.Fcompared.binds (ps := ["one", "other"]) fun _ _ _ _ _ _ us hl => match us, hl with | [_, _], _ => rfl
theorem Tops.bl_begin {K : PySem.W.Frag} {mg : Str → Option Value} (T : Tops K mg) : Binds K T.dl_begin ["_law_script"] [] := T.Fl_begin.binds (ps := ["_law_script"]) fun _ _ _ _ _ _ us hl => match us, hl with | [_], _ => rfl
theorem Tops.bl_take {K : PySem.W.Frag} {mg : Str → Option Value} (T : Tops K mg) : Binds K T.dl_take ["_law_draw", "_law_sides"] [] := T.Fl_take.binds (ps := ["_law_draw", "_law_sides"]) fun _ _ _ _ _ _ us hl => match us, hl with | [_, _], _ => rfl
theorem Tops.bl_gcd {K : PySem.W.Frag} {mg : Str → Option Value} (T : Tops K mg) : Binds K T.dl_gcd ["_law_a", "_law_b"] [] := T.Fl_gcd.binds (ps := ["_law_a", "_law_b"]) fun _ _ _ _ _ _ us hl => match us, hl with | [_, _], _ => rfl
theorem Tops.bl_lowest {K : PySem.W.Frag} {mg : Str → Option Value} (T : Tops K mg) : Binds K T.dl_lowest ["_law_over", "_law_under"] [] := T.Fl_lowest.binds (ps := ["_law_over", "_law_under"]) fun _ _ _ _ _ _ us hl => match us, hl with | [_, _], _ => rfl
theorem Tops.bl_terms {K : PySem.W.Frag} {mg : Str → Option Value} (T : Tops K mg) : Binds K T.dl_terms ["_law_draw", "_law_top", "_law_deep", "_law_wide"] [] := T.Fl_terms.binds (ps := ["_law_draw", "_law_top", "_law_deep", "_law_wide"]) fun _ _ _ _ _ _ us hl => match us, hl with | [_, _, _, _], _ => rfl
theorem Tops.bl_drawn_sums {K : PySem.W.Frag} {mg : Str → Option Value} (T : Tops K mg) : Binds K T.dl_drawn_sums ["_law_draw", "_law_top", "_law_deep", "_law_wide"] [] := T.Fl_drawn_sums.binds (ps := ["_law_draw", "_law_top", "_law_deep", "_law_wide"]) fun _ _ _ _ _ _ us hl => match us, hl with | [_, _, _, _], _ => rfl
theorem Tops.bl_great_sums {K : PySem.W.Frag} {mg : Str → Option Value} (T : Tops K mg) : Binds K T.dl_great_sums ["_law_draw", "_law_wide"] [] := T.Fl_great_sums.binds (ps := ["_law_draw", "_law_wide"]) fun _ _ _ _ _ _ us hl => match us, hl with | [_, _], _ => rfl
theorem Tops.bl_class {K : PySem.W.Frag} {mg : Str → Option Value} (T : Tops K mg) : Binds K T.dl_class ["_law_e"] [] := T.Fl_class.binds (ps := ["_law_e"]) fun _ _ _ _ _ _ us hl => match us, hl with | [_], _ => rfl
theorem Tops.bl_tried {K : PySem.W.Frag} {mg : Str → Option Value} (T : Tops K mg) : Binds K T.dl_tried ["_law_ask"] [] := T.Fl_tried.binds (ps := ["_law_ask"]) fun _ _ _ _ _ _ us hl => match us, hl with | [_], _ => rfl
theorem Tops.bl_whole {K : PySem.W.Frag} {mg : Str → Option Value} (T : Tops K mg) : Binds K T.dl_whole ["_law_terms_here"] [] := T.Fl_whole.binds (ps := ["_law_terms_here"]) fun _ _ _ _ _ _ us hl => match us, hl with | [_], _ => rfl
theorem Tops.bl_left_over {K : PySem.W.Frag} {mg : Str → Option Value} (T : Tops K mg) : Binds K T.dl_left_over ["_law_one", "_law_other"] [] := T.Fl_left_over.binds (ps := ["_law_one", "_law_other"]) fun _ _ _ _ _ _ us hl => match us, hl with | [_, _], _ => rfl
theorem Tops.bl_signum {K : PySem.W.Frag} {mg : Str → Option Value} (T : Tops K mg) : Binds K T.dl_signum ["_law_number"] [] := T.Fl_signum.binds (ps := ["_law_number"]) fun _ _ _ _ _ _ us hl => match us, hl with | [_], _ => rfl
theorem Tops.bl_int {K : PySem.W.Frag} {mg : Str → Option Value} (T : Tops K mg) : Binds K T.dl_int ["_law_thing"] [] := T.Fl_int.binds (ps := ["_law_thing"]) fun _ _ _ _ _ _ us hl => match us, hl with | [_], _ => rfl
theorem Tops.bl_raised {K : PySem.W.Frag} {mg : Str → Option Value} (T : Tops K mg) : Binds K T.dl_raised ["_law_part", "_law_upto"] [] := T.Fl_raised.binds (ps := ["_law_part", "_law_upto"]) fun _ _ _ _ _ _ us hl => match us, hl with | [_, _], _ => rfl
theorem Tops.bl_sums_at {K : PySem.W.Frag} {mg : Str → Option Value} (T : Tops K mg) : Binds K T.dl_sums_at ["_law_sums", "_law_size"] [] := T.Fl_sums_at.binds (ps := ["_law_sums", "_law_size"]) fun _ _ _ _ _ _ us hl => match us, hl with | [_, _], _ => rfl
theorem Tops.bl_sign_at {K : PySem.W.Frag} {mg : Str → Option Value} (T : Tops K mg) : Binds K T.dl_sign_at ["_law_one", "_law_other", "_law_size"] [] := T.Fl_sign_at.binds (ps := ["_law_one", "_law_other", "_law_size"]) fun _ _ _ _ _ _ us hl => match us, hl with | [_, _, _], _ => rfl
theorem Tops.blaw {K : PySem.W.Frag} {mg : Str → Option Value} (T : Tops K mg) : ∀ (s : Shared) (v : Value), BindsTo s T.dlaw ⟨[v], []⟩ [("_law_script", v)] := by
  obtain ⟨oc, od, kV, doc, pm, an, cdv, ct, osl, e, lk, hcd⟩ := T.Flaw.ex
  intro s v
  rw [e]
  exact .of_eq rfl
section
variable {P : Program} {w : World} {K : PySem.W.Frag} {mg : Str → Option Value} {base : Heap}
theorem ok_begin (T : Tops K mg) : FnOk P w K mg base CX0 1 T.fl_begin T.dl_begin ["_law_script"] (spBegin K) := by
  refine T.Fl_begin.ok scl_begin (fun vs H Q E h => ?_) (fun cdv A outer s H vs Q E hr h => ?_)
  · obtain ⟨a, ns, rfl, _⟩ := h
    rfl
  obtain ⟨a, ns, rfl, hS, q⟩ := h
  refine ⟨_, (pss_one (ps_ret (pe_lst (pa_cons (pe_callTy call_list_of (by rfl) T.mlist (by decide +kernel) (pa_cons (pe_slice sl_list (pv 0) po_none (po_some pe_int)) pa_nil)) (pa_cons pe_int (pa_cons pe_int (pa_cons pe_int pa_nil))))))), ?_⟩
  refine ⟨_, rfl, 63, rfl, a, _, rfl, hS, fun p np => ?_⟩
  obtain ⟨ms, hms⟩ := cut_map ns none (some 63)
  refine ⟨p, _, rfl, .inl (SqL.of upd_same), fun L nL => ?_⟩
  refine ⟨(by show 4 ≤ sizeLine; decide), fun d nd => ?_⟩
  have nL0 : H L = none := (same_new np).free nL
  have s3 : Same H (upd (upd (upd H p (.lst (cutV (ns.map V.int) none (some 63)))) L (.lst (cutV (ns.map V.int) none (some 63)))) d (.lst [.ref L, .int 0, .int 0, .int 37])) :=
    ((same_new np).trans (same_new nL)).trans (same_new nd)
  have nd0 : H d = none := ((same_new np).trans (same_new nL)).free nd
  refine q d L _ s3 nd0 nL0 ⟨ms, 0, 0, 37, upd_same, ?_, by decide, by decide, by decide, by decide⟩
  rw [upd_ne (ne_of_none (upd_same) nd), upd_same, hms]
theorem ok_takeW (T : Tops K mg) : FnOk P w K mg base CX0 1 T.fl_take T.dl_take ["_law_draw", "_law_sides"] spTakeW := by
  refine T.Fl_take.ok scl_take (fun vs H Q E h => ?_) (fun cdv A outer s H vs Q E hr h => ?_)
  · obtain ⟨d, L, k, rfl, _⟩ := h
    rfl
  obtain ⟨d, L, k, rfl, hD, k1, k2, q⟩ := h
  refine ⟨_, (pss_cut (ps_if (PW.pt (pw_and (pt_cmpR op_lt (pe_ix ix_list (pv 0) pe_int (fun _ _ => rfl)) (pv 1) (nomark _)) (pw_and1 (pt_cmpR op_lt (pe_ix ix_list (pv 0) pe_int (fun _ _ => rfl)) (pe_callB call_len_seq (by rfl) T.mlen PySem.boot_len (pa_cons (pe_ix ix_list (pv 0) pe_int (fun _ _ => rfl)) pa_nil)) (nomark _)))))
  (pss_cons (ps_set (i := 2) scl_take.nd rfl (Or.inl rfl) (pe_ix ix_list (pe_ix ix_list (pv 0) pe_int (fun _ _ => rfl)) (pe_ix ix_list (pv 0) pe_int (fun _ _ => rfl)) (fun _ _ => rfl)))
 (pss_cons (ps_asg (pe_op op_add (pe_ix ix_list (pv 0) pe_int (fun _ _ => rfl)) pe_int) (pg_sub (pv 0) pe_int set_list))
 (pss_cons (ps_asg pe_int (pg_sub (pv 0) pe_int set_list))
 (pss_one (ps_if (pt_cmpR op_ge (pe_callB call_abs (by rfl) T.mabs (by decide +kernel) (pa_cons (pv 2) pa_nil)) (pe_op op_pow pe_int pe_int) (nomark _))
  (pss_one (ps_asg (pe_callB call_abs (by rfl) T.mabs (by decide +kernel) (pa_cons (pv 2) pa_nil)) (pg_sub (pv 0) pe_int set_list)))
  (pss_one (ps_asg (pe_op op_mod (pe_op op_add (pe_op op_add (pe_op op_mul (pe_ix ix_list (pv 0) pe_int (fun _ _ => rfl)) pe_int) (pe_op op_mul (pe_op op_mod (pv 2) pe_int) pe_int)) pe_int) pe_int) (pg_sub (pv 0) pe_int set_list))))))))
  pss_nil)
 (pss_cons (ps_if (pt_cmpR op_ge (pe_ix ix_list (pv 0) pe_int (fun _ _ => rfl)) (pv 1) (nomark _))
  (pss_cons (ps_set (i := 3) scl_take.nd rfl (Or.inl rfl) (pe_op op_mod (pe_ix ix_list (pv 0) pe_int (fun _ _ => rfl)) (pv 1)))
 (pss_cons (ps_asg (pe_op op_fdivW (pe_ix ix_list (pv 0) pe_int (fun _ _ => rfl)) (pv 1)) (pg_sub (pv 0) pe_int set_list))
 (pss_one (ps_ret (pv 3)))))
  pss_nil)
 (pss_cons (ps_asg (pe_op op_mod (pe_op op_add (pe_op op_add (pe_op op_mul (pe_op op_mod (pe_op op_mul (pe_ix ix_list (pv 0) pe_int (fun _ _ => rfl)) (pe_ix ix_list (pv 0) pe_int (fun _ _ => rfl))) pe_int) pe_int) (pe_op op_mul (pe_ix ix_list (pv 0) pe_int (fun _ _ => rfl)) pe_int)) pe_int) pe_int) (pg_sub (pv 0) pe_int set_list))
 (pss_one (ps_ret (pe_op op_mod (pe_op op_add (pe_op op_fdiv (pe_ix ix_list (pv 0) pe_int (fun _ _ => rfl)) pe_int) (pe_op op_mul (pe_op op_mod (pe_ix ix_list (pv 0) pe_int (fun _ _ => rfl)) pe_int) pe_int)) (pv 1))))))), ?_⟩
  have hne := hD.ne
  refine ⟨fun σ' H' => (∃ x y, σ' = [some (.ref d), some (.int k), x, y]) ∧ Dr H' d L ∧ But d H H', ?_, ?_⟩
  · obtain ⟨ns, i, r, s, hd, hL, i0, r0, s0, s1⟩ := id hD
    refine ⟨_, rfl, d, _, 2, _, rfl, rfl, SqL.of hd, rfl, _, rfl, r, k, rfl, rfl, _, rfl, ite2 (fun c1 => ?_) (fun c1 => ?_)⟩
    · refine ⟨_, rfl, d, _, 1, _, rfl, rfl, SqL.of hd, rfl, _, rfl, d, _, 0, _, rfl, rfl, SqL.of hd, rfl, L, _, rfl, .inl (SqL.of hL), i, _, rfl, rfl, _, rfl, ite2 (fun c2 => ?_) (fun c2 => ?_)⟩
      · have c3 : i < ((ns.map V.int).length : Int) := of_decide_eq_true c2
        obtain ⟨v, hv, hm⟩ := atI_lt (xs := ns.map V.int) i0 c3
        obtain ⟨n, _, rfl⟩ := List.mem_map.mp hm
        refine ⟨_, rfl, d, _, 0, _, rfl, rfl, SqL.of hd, rfl, _, rfl, d, _, 1, _, rfl, rfl, SqL.of hd, rfl, L, _, i, _, rfl, rfl, SqL.of hL, hv, ?_⟩
        refine ⟨_, rfl, d, _, 1, _, rfl, rfl, SqL.of hd, rfl, i, 1, rfl, rfl, _, rfl, d, _, 1, 1, rfl, rfl, hd, rfl, ?_⟩
        refine ⟨_, rfl, d, _, 2, 2, rfl, rfl, upd_same, rfl, ?_⟩
        rw [upd_upd]
        refine ⟨_, rfl, n, rfl, 10, 18, rfl, rfl, ⟨by decide, by decide, by decide⟩, _, _, rfl, rfl, _, rfl, ite2 (fun c4 => ?_) (fun c4 => ?_)⟩
        · refine ⟨_, rfl, n, rfl, _, rfl, d, _, 2, 2, rfl, rfl, upd_same, rfl, ?_⟩
          rw [upd_upd]
          exact ⟨⟨_, _, rfl⟩, dr_set hL hne (by omega) (by split <;> omega) s0 s1, but_upd⟩
        · refine ⟨_, rfl, d, _, 3, _, rfl, rfl, SqL.of upd_same, rfl, s, 48271, rfl, rfl, .inr ⟨by decide, by decide⟩, _, rfl, n, 2147483629, rfl, rfl, (show (0 : Int) < 2147483629 by decide), _, 69621, rfl, rfl, .inr ⟨by decide, by decide⟩, _, _, rfl, rfl, _, 12345, rfl, rfl, _, 2147483647, rfl, rfl, (show (0 : Int) < 2147483647 by decide), _, rfl, d, _, 3, 3, rfl, rfl, upd_same, rfl, ?_⟩
          rw [upd_upd]
          have z := mod_lt (a := s * 48271 + n % 2147483629 * 69621 + 12345) (k := 2147483647) (by decide)
          exact ⟨⟨_, _, rfl⟩, dr_set hL hne (by omega) (Int.le_refl 0) z.1 z.2, but_upd⟩
      · exact ⟨⟨_, _, rfl⟩, hD, But.refl d H⟩
    · exact ⟨⟨_, _, rfl⟩, hD, But.refl d H⟩
  · rintro σ' H' ⟨⟨x, y, rfl⟩, hD', hB⟩
    obtain ⟨ns, i, r, s, hd, hL, i0, r0, s0, s1⟩ := id hD'
    refine ⟨_, rfl, d, _, 2, _, rfl, rfl, SqL.of hd, rfl, _, rfl, r, k, rfl, rfl, _, rfl, ite2 (fun c1 => ?_) (fun c1 => ?_)⟩
    · refine ⟨_, rfl, d, _, 2, _, rfl, rfl, SqL.of hd, rfl, _, rfl, r, k, rfl, rfl, (show (0 : Int) < k by omega), ?_⟩
      refine ⟨_, rfl, d, _, 2, _, rfl, rfl, SqL.of hd, rfl, _, rfl, r, k, rfl, rfl, wide_div (by omega) (b := 200) (by omega) (by decide) (by decide), _, rfl, d, _, 2, 2, rfl, rfl, hd, rfl, ?_⟩
      have z := mod_lt (a := r) k1
      refine ⟨_, rfl, q _ _ z.1 z.2 (dr_set hL hne i0 (Int.ediv_nonneg r0 (by omega)) s0 s1) (hB.trans but_upd)⟩
    · refine ⟨_, rfl, d, _, 3, _, rfl, rfl, SqL.of hd, rfl, _, rfl, d, _, 3, _, rfl, rfl, SqL.of hd, rfl, s, s, rfl, rfl, .inl ⟨by omega, by omega⟩, _, 2147483629, rfl, rfl, (show (0 : Int) < 2147483629 by decide), _, 5, rfl, rfl, .inr ⟨by decide, by decide⟩,
        _, rfl, d, _, 3, _, rfl, rfl, SqL.of hd, rfl, s, 16811, rfl, rfl, .inr ⟨by decide, by decide⟩, _, _, rfl, rfl, _, 2531011, rfl, rfl, _, 2147483647, rfl, rfl, (show (0 : Int) < 2147483647 by decide), _, rfl, d, _, 3, 3, rfl, rfl, hd, rfl, ?_⟩
      have z := mod_lt (a := s * s % 2147483629 * 5 + s * 16811 + 2531011) (k := 2147483647) (by decide)
      refine ⟨_, rfl, d, _, 3, _, rfl, rfl, SqL.of upd_same, rfl, _, 61, rfl, rfl, ⟨by decide, by decide⟩, _, rfl, d, _, 3, _, rfl, rfl, SqL.of upd_same, rfl, _, 8191, rfl, rfl, (show (0 : Int) < 8191 by decide), _, 31, rfl, rfl, .inr ⟨by decide, by decide⟩, _, _, rfl, rfl, _, rfl, _, k, rfl, rfl, (show (0 : Int) < k by omega), ?_⟩
      exact q _ _ (mod_lt k1).1 (mod_lt k1).2 (dr_set hL hne i0 r0 z.1 z.2) (hB.trans but_upd)
theorem ok_take (T : Tops K mg) : FnOk P w K mg base CX0 1 T.fl_take T.dl_take ["_law_draw", "_law_sides"] spTake := (ok_takeW T).imp take_of_wide
end
end K18

set_option Elab.async false
set_option linter.all false
set_option maxRecDepth 100000
set_option maxHeartbeats 4000000
namespace K18
open PySem PySem.Spec PyProof.Rows L2 OG
open C8 (pss_cut pe_gc)
open OGX

section
variable {P : Program} {w : World} {K : PySem.W.Frag} {mg : Str → Option Value} {base : Heap}
theorem ok_sg (T : Tops K mg) : FnOk P w K mg base CX0 1 T.fsign_of T.dsign_of ["number"] spSg := by
  refine T.Fsign_of.ok (k := 0) scsign_of (fun vs H Q E h => ?_) (fun cdv A outer s H vs Q E hr h => ?_)
  · obtain ⟨n, rfl, _⟩ := h
    rfl
  obtain ⟨n, rfl, q⟩ := h
  refine ⟨_, (pss_cons (ps_if (pt_cmpR op_eq (pv 0) pe_int (nomark _))
  (pss_one (ps_ret pe_int))
  pss_nil)
 (pss_one (ps_ret (pe_ifExp (pt_cmpR op_gt (pv 0) pe_int (nomark _)) pe_int (pe_un un_neg pe_int))))), ?_⟩
  unfold sgX at q
  refine ⟨_, rfl, rfl, _, rfl, ite2 (fun c => ?_) (fun c => ?_)⟩
  · have c2 : n = 0 := V.int.inj (of_decide_eq_true c)
    rw [if_pos c2] at q
    exact q
  · have c2 : ¬ n = 0 := fun z => c (decide_eq_true (by rw [z]))
    rw [if_neg c2] at q
    refine ⟨_, rfl, n, 0, rfl, rfl, _, rfl, ite2 (fun d => ?_) (fun d => ?_)⟩
    · have d2 : 0 < n := of_decide_eq_true d
      rw [if_pos d2] at q
      exact q
    · have d2 : ¬ 0 < n := fun z => d (decide_eq_true z)
      rw [if_neg d2] at q
      exact ⟨1, rfl, q⟩
theorem take_snoc {p : List Int} {e : Nat} {c : Int} (h : p[e]? = some c) : p.take (e + 1) = p.take e ++ [c] := by
  rw [List.take_add_one, h]
  rfl
theorem ok_trim (T : Tops K mg) : FnOk P w K mg base CX0 1 T.ftrimmed T.dtrimmed ["parts"] spTrim := by
  refine T.Ftrimmed.ok (k := 0) sctrimmed (fun vs H Q E h => ?_) (fun cdv A outer s H vs Q E hr h => ?_)
  · obtain ⟨a, p, rfl, _⟩ := h
    rfl
  obtain ⟨a, p, rfl, ha, hl, q⟩ := h
  refine ⟨_, (pss_cons (ps_set (i := 1) sctrimmed.nd rfl (Or.inl rfl) (pe_callB call_len_seq (by rfl) T.mlen PySem.boot_len (pa_cons (pv 0) pa_nil)))
 (pss_cons (ps_while PassesOwn.never (PW.pt (pw_and (pt_cmpR op_gt (pv 1) pe_int (nomark _)) (pw_and1 (pt_cmpR op_eq (pe_ix ix_list (pv 0) (pe_op op_sub (pv 1) pe_int) (fun _ _ => rfl)) pe_int (nomark _)))))
  (pss_one (ps_aug (i := 1) sctrimmed.nd rfl (Or.inl rfl) pe_int ip_sub)))
 (pss_one (ps_ret (pe_slice sl_list (pv 0) po_none (po_some (pv 1))))))), ?_⟩
  refine ⟨_, rfl, a, _, rfl, .inl (SqL.of ha), ?_⟩
  rw [List.length_map]
  refine ⟨fun m σ H' => ∃ e : Nat, m = e ∧ σ = [some (.ref a), some (.int e)] ∧ H' = H ∧ e ≤ p.length ∧ trim (p.take e) = trim p, ⟨p.length, p.length, rfl, rfl, rfl, Nat.le_refl _, by rw [List.take_length]⟩, ?_⟩
  rintro m σ H' ⟨e, hm, rfl, rfl, he, ht⟩
  have fin : ∀ e2 : Nat, e2 ≤ p.length → p.take e2 = trim p → ∀ b, H' b = none → Q (.ref b) (upd H' b (.lst (cutV (p.map V.int) none (some (e2 : Int))))) := fun e2 h2 h3 b nb => by
    refine q b _ (same_new nb) nb ?_
    have : cutV (p.map V.int) none (some (e2 : Int)) = (p.take e2).map V.int := by
      unfold cutV
      rw [HT.sIx_none, HT.sIx_nat, List.drop_zero, Nat.sub_zero, List.length_map, Nat.min_eq_left h2, List.map_take]
    show (upd H' b _) b = some (HO.lst ((trim p).map V.int))
    rw [upd_same, this, h3]
  refine ⟨_, rfl, e, 0, rfl, rfl, _, rfl, ite2 (fun c => ?_) (fun c => ?_)⟩
  · have c2 : (0 : Int) < e := of_decide_eq_true c
    obtain ⟨e', rfl⟩ : ∃ e', e = e' + 1 := ⟨e - 1, by omega⟩
    have hx : p[e']? = some p[e'] := List.getElem?_eq_getElem (by omega)
    have ei : (((e' + 1 : Nat) : Int) - 1) = (e' : Int) := by omega
    refine ⟨_, rfl, _, rfl, _, 1, rfl, rfl, a, _, _, .int p[e'], rfl, rfl, SqL.of ha, by rw [ei]; exact atI_nat (mapI_get hx), rfl, _, rfl, ite2 (fun d => ?_) (fun d => ?_)⟩
    · have d2 : p[e'] = 0 := V.int.inj (of_decide_eq_true d)
      refine ⟨fun σ' H2 => σ' = [some (.ref a), some (.int e')] ∧ H2 = H', fun σ' H2 h => ⟨e', by omega, e', rfl, h.1, h.2, by omega, ?_⟩, ?_⟩
      · rw [← ht, take_snoc hx, d2, trim_snoc0]
      · refine ⟨_, rfl, _, 1, rfl, rfl, ?_, rfl⟩
        show [_, some (V.int (((e' + 1 : Nat) : Int) - 1))] = _
        rw [ei]
    · have d2 : p[e'] ≠ 0 := fun z => d (decide_eq_true (by rw [z]))
      refine ⟨_, rfl, _, rfl, _, rfl, a, _, rfl, SqL.of ha, ?_⟩
      refine fin (e' + 1) he ?_
      rw [← ht, take_snoc hx, trim_snoc d2]
  · have c2 : e = 0 := by
      have : ¬ (0 : Int) < e := fun z => c (decide_eq_true z)
      omega
    subst c2
    refine ⟨_, rfl, _, rfl, _, rfl, a, _, rfl, SqL.of ha, ?_⟩
    exact fin 0 (Nat.zero_le _) (by rw [← ht]; rfl)
theorem ok_val (T : Tops K mg) : FnOk P w K mg base CX0 1 T.fvalue T.dvalue ["polynomial", "number"] spVal := by
  refine T.Fvalue.ok (k := 0) scvalue (fun vs H Q E h => ?_) (fun cdv A outer s H vs Q E hr h => ?_)
  · obtain ⟨a, p, x, rfl, _⟩ := h
    rfl
  obtain ⟨a, p, x, rfl, ha, ⟨hl, B, C, hB, hC, B0, hb⟩, q⟩ := h
  refine ⟨_, (pss_cons (ps_set (i := 2) scvalue.nd rfl (Or.inl rfl) pe_int)
 (pss_cons (ps_for PassesOwn.never rfl (pi_reversed (by rfl) T.mreversed (pa_cons (pv 0) pa_nil)) (pg_name (i := 3) scvalue.nd rfl (Or.inl rfl))
  (pss_one (ps_set (i := 2) scvalue.nd rfl (Or.inl rfl) (pe_op op_add (pe_op op_mulW (pv 2) (pv 1)) (pv 3)))))
 (pss_one (ps_ret (pv 2))))), ?_⟩
  refine ⟨_, rfl, a, _, rfl, SqL.of ha, ?_⟩
  refine for_it (walk_rev (xs := p.map V.int)) (fun i σ H' => (∃ x3, σ = [some (.ref a), some (.int x), some (.int (ev (p.drop (p.length - i)) x)), x3]) ∧ H' = H) ⟨⟨none, by rw [Nat.sub_zero, List.drop_length]; rfl⟩, rfl⟩ (fun i σ H' _ hP => by rw [hP.2]; exact SqL.of ha) (fun i v σ H' H'' hi hP hY => ?_) (fun σ H' hP => ?_)
  · obtain ⟨⟨x3, rfl⟩, rfl⟩ := hP
    obtain ⟨rfl, hv⟩ := hY
    rw [List.length_map] at hi hv
    obtain ⟨c, hc⟩ : ∃ c, p[p.length - 1 - i]? = some c := ⟨_, List.getElem?_eq_getElem (by omega)⟩
    rw [mapI_get hc] at hv
    cases hv
    have hd : p.drop (p.length - (i + 1)) = c :: p.drop (p.length - i) := by
      have e1 : p.length - (i + 1) = p.length - 1 - i := by omega
      have e2 : p.length - i = (p.length - 1 - i) + 1 := by omega
      rw [e1, e2]
      have lt : p.length - 1 - i < p.length := by omega
      have dd := List.drop_eq_getElem_cons lt
      rw [show p[p.length - 1 - i] = c from (List.getElem?_eq_some_iff.mp hc).2] at dd
      exact dd
    have hcf : Cf B (p.drop (p.length - i)) := fun z hz => hB z (List.mem_of_mem_drop hz)
    have bits := ev_bits hC hcf
    have ld : (p.drop (p.length - i)).length ≤ p.length := by rw [List.length_drop]; omega
    have lm : (p.drop (p.length - i)).length * (C + 1) ≤ p.length * (C + 1) := Nat.mul_le_mul_right _ ld
    have em : (p.length + 1) * (C + 1) = p.length * (C + 1) + (C + 1) := by rw [Nat.add_mul, Nat.one_mul]
    refine ⟨_, rfl, _, rfl, _, _, rfl, rfl, wide_mul bits (Nat.lt_of_lt_of_le hC (Nat.pow_le_pow_right (by decide) (Nat.le_succ C))) (by omega) (by omega) (by omega), _, rfl, _, _, rfl, rfl, ⟨some (.int c), ?_⟩, rfl⟩
    rw [hd]
    show _ = [_, _, some (V.int (c + x * ev (p.drop (p.length - i)) x)), _]
    rw [Int.add_comm c, Int.mul_comm x]
    rfl
  · obtain ⟨⟨x3, rfl⟩, rfl⟩ := hP
    rw [List.length_map, Nat.sub_self, List.drop_zero]
    exact ⟨_, rfl, q⟩
theorem ok_sgat (T : Tops K mg) : FnOk P w K mg base CX0 2 T.fsign_at T.dsign_at ["polynomial", "number"] spSgAt := by
  have Gsign_of : FnOk P w K mg base CX0 1 T.fsign_of T.dsign_of ["number"] spSg := ok_sg T
  have Gvalue : FnOk P w K mg base CX0 1 T.fvalue T.dvalue ["polynomial", "number"] spVal := ok_val T
  refine T.Fsign_at.ok (k := 1) scsign_at (fun vs H Q E h => ?_) (fun cdv A outer s H vs Q E hr h => ?_)
  · obtain ⟨a, p, x, rfl, _⟩ := h
    rfl
  obtain ⟨a, p, x, rfl, ha, hp, q⟩ := h
  refine ⟨_, (pss_one (ps_ret (pe_call Gsign_of (hr.mono (by omega)) (by rfl) T.gsign_of T.Fsign_of.kp T.bsign_of .nil pass0 (pa_cons (pe_call Gvalue (hr.mono (by omega)) (by rfl) T.gvalue T.Fvalue.kp T.bvalue .nil pass0 (pa_cons (pv 0) (pa_cons (pv 1) pa_nil))) pa_nil)))), ?_⟩
  exact ⟨_, rfl, _, rfl, a, p, x, rfl, ha, hp, _, rfl, q⟩
theorem ok_vals (T : Tops K mg) : FnOk P w K mg base CX0 2 T.fvalues_from T.dvalues_from ["polynomial", "first", "many"] spVals := by
  have Gvalue : FnOk P w K mg base CX0 1 T.fvalue T.dvalue ["polynomial", "number"] spVal := ok_val T
  refine T.Fvalues_from.ok (k := 1) scvalues_from (fun vs H Q E h => ?_) (fun cdv A outer s H vs Q E hr h => ?_)
  · obtain ⟨a, p, lo, n, rfl, _⟩ := h
    rfl
  obtain ⟨a, p, lo, n, rfl, ha, hn, hp, q⟩ := h
  refine ⟨_, (pss_one (ps_ret (pe_lc (own := [("place", 3)]) rfl scvalues_from.nd (pi_range1 (by rfl) T.mrange (pa_cons (pv 2) pa_nil)) (blkOk_by (N := Nvalues_from) (sc := defScope svalues_from) (by decide +kernel)) (fun _ _ _ _ _ => (pg_name (i := 3) scvalues_from.nd rfl (Or.inl rfl))) (fun _ _ _ _ _ => pts_nil) (fun _ _ _ _ _ => (pe_call Gvalue (hr.mono (by omega)) (by rfl) T.gvalue T.Fvalue.kp T.bvalue .nil pass0 (pa_cons (pv 0) (pa_cons (pe_op op_add (pv 1) (pv 3)) pa_nil))))))), ?_⟩
  refine ⟨_, rfl, n, rfl, by omega, by omega, fun D nD => ?_⟩
  have sD := same_new (o := .lst []) nD
  refine lc_range (lo := 0) (n := (n : Int).toNat) (fun i H' => Same H H' ∧ H' D = some (.lst ((rowF (ev p) lo i).map V.int))) ⟨sD, upd_same⟩ (fun j H4 hj hP => ?_) (fun H4 hP => ?_)
  · obtain ⟨s4, h4⟩ := hP
    refine ⟨rfl, yes_go ?_⟩
    refine ⟨_, rfl, _, rfl, _, rfl, lo, _, rfl, rfl, a, p, _, rfl, s4 _ _ ha, ?_, ?_⟩
    · have := hp j (by omega)
      rwa [show lo + (0 + (j : Int)) = lo + j by omega]
    refine ⟨_, h4, szl (by rw [List.length_map, rowF_len]; omega), Same.upd_new s4 nD, ?_⟩
    rw [upd_same, rowF_snoc, List.map_append, show lo + (0 + (j : Int)) = lo + j by omega]
    rfl
  · obtain ⟨s4, h4⟩ := hP
    rw [show (n : Int).toNat = n by omega] at h4
    exact q D H4 s4 nD h4
theorem ok_gaps (T : Tops K mg) : FnOk P w K mg base CX0 1 T.fgaps T.dgaps ["numbers"] spGaps := by
  refine T.Fgaps.ok (k := 0) scgaps (fun vs H Q E h => ?_) (fun cdv A outer s H vs Q E hr h => ?_)
  · obtain ⟨a, f, lo, n, rfl, _⟩ := h
    rfl
  obtain ⟨a, f, lo, n, rfl, ha, hn, q⟩ := h
  refine ⟨_, (pss_one (ps_ret (pe_lc (own := [("place", 1)]) rfl scgaps.nd (pi_range1 (by rfl) T.mrange (pa_cons (pe_op op_sub (pe_callB call_len_seq (by rfl) T.mlen PySem.boot_len (pa_cons (pv 0) pa_nil)) pe_int) pa_nil)) (blkOk_by (N := Ngaps) (sc := defScope sgaps) (by decide +kernel)) (fun _ _ _ _ _ => (pg_name (i := 1) scgaps.nd rfl (Or.inl rfl))) (fun _ _ _ _ _ => pts_nil) (fun _ _ _ _ _ => (pe_op op_sub (pe_ix (ix_listK (K := K) rfl) (pv 0) (pe_op op_add (pv 1) pe_int) (fun _ _ => rfl)) (pe_ix (ix_listK (K := K) rfl) (pv 0) (pv 1) (fun _ _ => rfl))))))), ?_⟩
  refine ⟨_, rfl, a, _, rfl, .inl (SqL.of ha), ?_⟩
  rw [List.length_map, rowF_len]
  have en : (((n + 1 : Nat) : Int) - 1) = n := by omega
  refine ⟨_, 1, rfl, rfl, (n : Int), congrArg (fun z => [V.int z]) en, by omega, by omega, fun D nD => ?_⟩
  have sD := same_new (o := .lst []) nD
  refine lc_range (lo := 0) (n := (n : Int).toNat) (fun i H' => Same H H' ∧ H' D = some (.lst ((rowF (dl f) lo i).map V.int))) ⟨sD, upd_same⟩ (fun j H4 hj hP => ?_) (fun H4 hP => ?_)
  · obtain ⟨s4, h4⟩ := hP
    have hj2 : j < n := by omega
    refine ⟨rfl, yes_go ?_⟩
    have e1 : (0 : Int) + (j : Int) + 1 = ((j + 1 : Nat) : Int) := by omega
    have e0 : (0 : Int) + (j : Int) = ((j : Nat) : Int) := by omega
    refine ⟨_, rfl, _, rfl, _, 1, rfl, rfl, a, _, _, _, rfl, rfl, SqL.of (s4 _ _ ha), by rw [e1]; exact atI_nat (mapI_get (rowF_get (by omega))), _, rfl, _, rfl, a, _, _, _, rfl, rfl, SqL.of (s4 _ _ ha), by rw [e0]; exact atI_nat (mapI_get (rowF_get (by omega))), _, _, rfl, rfl, ?_⟩
    refine ⟨_, h4, szl (by rw [List.length_map, rowF_len]; omega), Same.upd_new s4 nD, ?_⟩
    rw [upd_same, rowF_snoc, List.map_append]
    have e3 : lo + ((j + 1 : Nat) : Int) = lo + j + 1 := by omega
    rw [e3]
    rfl
  · obtain ⟨s4, h4⟩ := hP
    rw [show (n : Int).toNat = n by omega] at h4
    exact q D H4 s4 nD h4
end
end K18

set_option Elab.async false
set_option linter.all false
set_option maxRecDepth 100000
set_option maxHeartbeats 4000000
namespace K18
open PySem PySem.Spec PyProof.Rows L2 OG
open C8 (pss_cut pe_gc)
open OGX

section
variable {P : Program} {w : World} {K : PySem.W.Frag} {mg : Str → Option Value} {base : Heap}
theorem syn_one {c x : Int} : syn c [x] = [x] := rfl
theorem syn_cons {c a b : Int} {r t : List Int} (h : syn c r = b :: t) : syn c (a :: r) = (a + c * b) :: b :: t := by
  show (match syn c r with | [] => [a] | b :: t => (a + c * b) :: b :: t) = _
  rw [h]
theorem ok_shift (T : Tops K mg) : FnOk P w K mg base CX0 1 T.fshifted T.dshifted ["polynomial", "number"] spShift := by
  refine T.Fshifted.ok (k := 0) scshifted (fun vs H Q E h => ?_) (fun cdv A outer s H vs Q E hr h => ?_)
  · obtain ⟨a, p, rfl, _⟩ := h
    rfl
  obtain ⟨a, p, rfl, ha, hl, q⟩ := h
  refine ⟨_, (pss_cons (ps_set (i := 2) scshifted.nd rfl (Or.inl rfl) (pe_callTy call_list_of (by rfl) T.mlist (by decide +kernel) (pa_cons (pv 0) pa_nil)))
 (pss_cons (ps_for PassesOwn.never rfl (pi_range1 (by rfl) T.mrange (pa_cons (pe_callB call_len_seq (by rfl) T.mlen PySem.boot_len (pa_cons (pv 2) pa_nil)) pa_nil)) (pg_name (i := 3) scshifted.nd rfl (Or.inl rfl))
  (pss_one (ps_for PassesOwn.never rfl (pi_revR (by rfl) T.mreversed (prg_2 (by rfl) T.mrange (pv 3) (pe_op op_sub (pe_callB call_len_seq (by rfl) T.mlen PySem.boot_len (pa_cons (pv 2) pa_nil)) pe_int))) (pg_name (i := 4) scshifted.nd rfl (Or.inl rfl))
  (pss_one (ps_augS (pv 2) (pv 4) get_list (pe_op op_mul (pv 1) (pe_ix ix_list (pv 2) (pe_op op_add (pv 4) pe_int) (fun _ _ => rfl))) ip_add set_list)))))
 (pss_one (ps_ret (pv 2))))), ?_⟩
  refine ⟨_, rfl, a, _, rfl, .inl (SqL.of ha), fun b nb => ?_⟩
  refine ⟨_, rfl, b, _, rfl, .inl (SqL.of upd_same), _, rfl, by rw [List.length_map]; omega, by rw [List.length_map]; omega, ?_⟩
  have sb := same_new (o := .lst (p.map V.int)) nb
  rw [List.length_map]
  have en : (((p.length : Nat) : Int)).toNat = p.length := by omega
  refine for_range (lo := 0) (n := ((p.length : Nat) : Int).toNat) (fun i σ H' => (∃ x3 x4, σ = [some (.ref a), some (.int 1), some (.ref b), x3, x4]) ∧ Same H H' ∧ ∃ pre rest : List Int, LAt H' b (pre ++ rest) ∧ pre.length = i ∧ rest.length + i = p.length ∧ pre ++ tay 1 rest.length rest = tay 1 p.length p)
    ⟨⟨_, _, rfl⟩, sb, [], p, upd_same, rfl, rfl, rfl⟩ (fun i σ H2 hi hP => ?_) (fun σ H2 hP => ?_)
  · obtain ⟨⟨x3, x4, rfl⟩, s2, pre, rest, hb, hpre, hrest, ht⟩ := hP
    have hi2 : i < p.length := by omega
    have lr : 0 < rest.length := by omega
    refine ⟨_, rfl, _, rfl, b, _, rfl, .inl (SqL.of hb), _, 1, rfl, rfl, _, _, rfl, rfl, by omega, by omega, by rw [List.length_map, List.length_append]; omega, by rw [List.length_map, List.length_append]; omega, ?_⟩
    rw [List.length_map, List.length_append]
    have e1 : ((((pre.length + rest.length : Nat) : Int) - 1) - (0 + (i : Int))).toNat = rest.length - 1 := by omega
    rw [e1]
    have e2 : (0 + (i : Int)) + (((rest.length - 1 : Nat) : Int)) - 1 = (i : Int) + rest.length - 2 := by omega
    rw [e2]
    refine for_it walk_rangeC (fun j σ H' => (∃ x4, σ = [some (.ref a), some (.int 1), some (.ref b), some (.int (0 + (i : Int))), x4]) ∧ Same H H' ∧ LAt H' b (pre ++ (rest.take (rest.length - 1 - j) ++ syn 1 (rest.drop (rest.length - 1 - j)))))
      ⟨⟨_, rfl⟩, s2, ?_⟩ (fun _ _ _ _ _ => trivial) (fun j v σ H3 H3' hj hP hY => ?_) (fun σ H3 hP => ?_)
    · obtain ⟨r0, c, rfl⟩ : ∃ r0 c, rest = r0 ++ [c] := by
        rcases List.eq_nil_or_concat rest with e | ⟨r0, c, e⟩
        · rw [e] at lr
          exact absurd lr (by decide)
        · exact ⟨r0, c, by rw [e, List.concat_eq_append]⟩
      rw [List.length_append]
      show LAt H2 b (pre ++ ((r0 ++ [c]).take (r0.length + 1 - 1 - 0) ++ syn 1 ((r0 ++ [c]).drop (r0.length + 1 - 1 - 0))))
      rw [show r0.length + 1 - 1 - 0 = r0.length by omega, List.take_left, List.drop_left, syn_one]
      exact hb
    · obtain ⟨⟨x4, rfl⟩, s3, h3⟩ := hP
      obtain ⟨rfl, rfl⟩ := hY
      obtain ⟨k, hk⟩ : ∃ k, rest.length - 1 - j = k + 1 := ⟨rest.length - 2 - j, by omega⟩
      have hk2 : rest.length - 1 - (j + 1) = k := by omega
      rw [hk] at h3
      rw [hk2]
      have klt : k < rest.length := by omega
      cases hs : syn 1 (rest.drop (k + 1)) with
      | nil =>
        have := syn_nil hs
        have l := congrArg List.length this
        rw [List.length_drop] at l
        have : rest.length - (k + 1) = 0 := l
        omega
      | cons d t =>
      rw [hs] at h3
      have ed : rest.drop k = rest[k] :: rest.drop (k + 1) := List.drop_eq_getElem_cons klt
      have et : rest.take (k + 1) = rest.take k ++ [rest[k]] := by
        rw [List.take_add_one, List.getElem?_eq_getElem klt]
        rfl
      have el : pre ++ (rest.take (k + 1) ++ (d :: t)) = (pre ++ rest.take k) ++ (rest[k] :: d :: t) := by
        rw [et, List.append_assoc, List.append_assoc]
        rfl
      rw [el] at h3
      have lp : (pre ++ rest.take k).length = i + k := by
        rw [List.length_append, List.length_take, hpre]
        omega
      have g0 : ((pre ++ rest.take k) ++ (rest[k] :: d :: t))[i + k]? = some rest[k] := by
        rw [List.getElem?_append_right (by omega), lp, Nat.sub_self]
        rfl
      have g1 : ((pre ++ rest.take k) ++ (rest[k] :: d :: t))[i + k + 1]? = some d := by
        rw [List.getElem?_append_right (by omega), lp, show i + k + 1 - (i + k) = 1 by omega]
        rfl
      have ep : (i : Int) + rest.length - 2 + ((j : Nat) : Int) * (-1) = ((i + k : Nat) : Int) := by omega
      have ep1 : (i : Int) + rest.length - 2 + ((j : Nat) : Int) * (-1) + 1 = ((i + k + 1 : Nat) : Int) := by omega
      refine ⟨_, rfl, _, rfl, b, _, i + k, .int rest[k], rfl, congrArg V.int ep, h3, mapI_get g0, ?_⟩
      refine ⟨_, rfl, _, rfl, _, rfl, _, 1, rfl, rfl, b, _, _, .int d, rfl, rfl, SqL.of h3, (congrArg (atI _) ep1).trans (atI_nat (mapI_get g1)), 1, d, rfl, rfl, .inl ⟨by decide, by decide⟩, _, _, rfl, rfl, ?_⟩
      refine ⟨b, _, _, i + k, rfl, rfl, h3, ?_, ?_⟩
      · rw [ep, List.length_map, List.length_append, lp]
        unfold ixN
        rw [if_pos (by omega), if_pos (by show ((i + k : Nat) : Int) < ((i + k + (t.length + 1 + 1) : Nat) : Int); omega)]
        rfl
      refine ⟨⟨_, rfl⟩, Same.upd_new s3 nb, ?_⟩
      show (upd H3' b _) b = some (HO.lst _)
      rw [upd_same, ed, syn_cons hs, ← List.map_set]
      have es : ((pre ++ rest.take k) ++ (rest[k] :: d :: t)).set (i + k) (rest[k] + 1 * d) = pre ++ (rest.take k ++ ((rest[k] + 1 * d) :: d :: t)) := by
        rw [List.set_append_right _ _ (by omega), lp, Nat.sub_self, List.append_assoc]
        rfl
      rw [es]
    · obtain ⟨⟨x4, rfl⟩, s3, h3⟩ := hP
      have e3 : rest.length - 1 - (rest.length - 1) = 0 := by omega
      rw [e3] at h3
      cases hs : syn 1 rest with
      | nil =>
        have := congrArg List.length (syn_nil hs)
        have : rest.length = 0 := this
        omega
      | cons d t =>
        have ls := syn_len 1 rest
        rw [hs] at ls
        have ls2 : t.length + 1 = rest.length := ls
        refine ⟨⟨_, _, rfl⟩, s3, pre ++ [d], t, ?_, by rw [List.length_append, hpre]; rfl, by omega, ?_⟩
        · have e4 : rest.take 0 ++ syn 1 (rest.drop 0) = d :: t := by
            rw [List.drop_zero, hs]
            rfl
          rw [e4] at h3
          rw [List.append_assoc]
          exact h3
        · rw [← ht, ← ls2]
          show (pre ++ [d]) ++ tay 1 t.length t = pre ++ (match syn 1 rest with | [] => [] | b :: t' => b :: tay 1 t.length t')
          rw [hs, List.append_assoc]
          rfl
  · obtain ⟨⟨x3, x4, rfl⟩, s2, pre, rest, hb, hpre, hrest, ht⟩ := hP
    have e0 : rest = [] := List.eq_nil_of_length_eq_zero (by omega)
    subst e0
    have ht2 : pre = tay 1 p.length p := by
      rw [← ht]
      show pre = pre ++ []
      rw [List.append_nil]
    rw [List.append_nil, ht2] at hb
    exact ⟨_, rfl, q b H2 s2 nb hb⟩
theorem ok_dif (T : Tops K mg) : FnOk P w K mg base CX0 2 T.fdifference T.ddifference ["polynomial"] spDif := by
  have Gshifted : FnOk P w K mg base CX0 1 T.fshifted T.dshifted ["polynomial", "number"] spShift := ok_shift T
  have Gtrimmed : FnOk P w K mg base CX0 1 T.ftrimmed T.dtrimmed ["parts"] spTrim := ok_trim T
  refine T.Fdifference.ok (k := 1) scdifference (fun vs H Q E h => ?_) (fun cdv A outer s H vs Q E hr h => ?_)
  · obtain ⟨a, p, rfl, _⟩ := h
    rfl
  obtain ⟨a, p, rfl, ha, hl, q⟩ := h
  refine ⟨_, (pss_one (ps_ret (pe_call Gtrimmed (hr.mono (by omega)) (by rfl) T.gtrimmed T.Ftrimmed.kp T.btrimmed .nil pass0 (pa_cons (pe_lc (own := [("ahead", 1), ("behind", 2)]) rfl scdifference.nd (RZ.pi_zipA (by rfl) T.mzip (pa_cons (pv 0) (pa_cons (pe_call Gshifted (hr.mono (by omega)) (by rfl) T.gshifted T.Fshifted.kp T.bshifted .nil pass0 (pa_cons (pv 0) (pa_cons pe_int pa_nil))) pa_nil))) (blkOk_by (N := Ndifference) (sc := defScope sdifference) (by decide +kernel)) (fun _ _ _ _ _ => (pg_tupK (K := K) (n := 2) rfl rfl (pgs_cons (pg_name (i := 1) scdifference.nd rfl (Or.inl rfl)) (pgs_cons (pg_name (i := 2) scdifference.nd rfl (Or.inl rfl)) pgs_nil)))) (fun _ _ _ _ _ => pts_nil) (fun _ _ _ _ _ => (pe_op op_sub (pv 2) (pv 1)))) pa_nil)))), ?_⟩
  refine ⟨_, rfl, _, rfl, a, p, rfl, ha, hl, fun b H1 s1 nb hb => ?_⟩
  have lt := tay_len 1 (n := p.length) (p := p) (Nat.le_refl _)
  refine ⟨a, b, _, _, rfl, .inl ⟨SqL.of (s1 _ _ ha), SqL.of hb, fun D nD => ?_⟩⟩
  have nDH : H D = none := s1.free nD
  refine lc_it (walk_zip (K := K) (xs := p.map V.int) (ys := (tay 1 p.length p).map V.int) (n := p.length) (by rw [List.length_map, List.length_map, lt, Nat.min_self])) (fun i H' => Same H H' ∧ Same H1 H' ∧ H' D = some (.lst (((subL p (tay 1 p.length p)).take i).map V.int))) ⟨s1.trans (same_new nD), same_new nD, upd_same⟩ (fun i H' _ hP => ⟨SqL.of (hP.1 _ _ ha), SqL.of (hP.2.1 _ _ hb)⟩) (fun i x H' H'' hlt hP hY => ?_) (fun H' hP => ?_)
  · obtain ⟨s2, s12, hD⟩ := hP
    obtain ⟨Tn, x1, x2, rfl, nT, rfl, g1, g2⟩ := hY
    obtain ⟨c1, hc1⟩ : ∃ c, p[i]? = some c := ⟨_, List.getElem?_eq_getElem hlt⟩
    obtain ⟨c2, hc2⟩ : ∃ c, (tay 1 p.length p)[i]? = some c := ⟨_, List.getElem?_eq_getElem (by omega)⟩
    have g1' : (p.map V.int)[i]? = some x1 := g1
    have g2' : ((tay 1 p.length p).map V.int)[i]? = some x2 := g2
    rw [mapI_get hc1] at g1'
    rw [mapI_get hc2] at g2'
    cases g1'
    cases g2'
    have sT : Same H' (upd H' Tn (.tup [.int c1, .int c2])) := same_new nT
    refine ⟨Tn, _, rfl, SqT.of upd_same, rfl, _, _, rfl, _, _, rfl, rfl, rfl, yes_go ?_⟩
    refine ⟨_, rfl, _, rfl, c2, c1, rfl, rfl, ?_⟩
    have hz : (subL p (tay 1 p.length p))[i]? = some (c2 - c1) := by
      unfold subL
      rw [List.getElem?_zipWith, hc1, hc2]
    have lz := subL_len (p := p) (q := tay 1 p.length p) lt.symm
    refine ⟨_, sT _ _ hD, szl (by rw [List.length_map, List.length_take]; omega), Same.upd_new (s2.trans sT) nDH, Same.upd_new (s12.trans sT) nD, ?_⟩
    rw [upd_same, List.take_add_one, hz, List.map_append]
    rfl
  · obtain ⟨s2, s12, hD⟩ := hP
    have lz := subL_len (p := p) (q := tay 1 p.length p) lt.symm
    rw [List.take_of_length_le (by omega)] at hD
    refine ⟨D, _, rfl, hD, by rw [lz]; omega, fun b2 H3 s3 nb2 hb2 => ?_⟩
    exact q b2 H3 (s2.trans s3) (s2.free nb2) hb2
end
end K18

set_option Elab.async false
set_option linter.all false
set_option maxRecDepth 100000
set_option maxHeartbeats 4000000
namespace K18
open PySem PySem.Spec PyProof.Rows L2 OG
open C8 (pss_cut pe_gc)
open OGX

section
variable {P : Program} {w : World} {K : PySem.W.Frag} {mg : Str → Option Value} {base : Heap}
theorem ok_turned (T : Tops K mg) : FnOk P w K mg base CX0 3 T.ffirst_turned T.dfirst_turned ["polynomial", "low", "high"] spTurned := by
  have Gsign_at : FnOk P w K mg base CX0 2 T.fsign_at T.dsign_at ["polynomial", "number"] spSgAt := ok_sgat T
  refine T.Ffirst_turned.ok (k := 2) scfirst_turned (fun vs H Q E h => ?_) (fun cdv A outer s H vs Q E hr h => ?_)
  · obtain ⟨a, p, lo, hi, rfl, _⟩ := h
    rfl
  obtain ⟨a, p, lo, hi, rfl, ha, hlt, hp, hne, q⟩ := h
  refine ⟨_, (pss_cons (ps_set (i := 3) scfirst_turned.nd rfl (Or.inl rfl) (pe_call Gsign_at (hr.mono (by omega)) (by rfl) T.gsign_at T.Fsign_at.kp T.bsign_at .nil pass0 (pa_cons (pv 0) (pa_cons (pv 1) pa_nil))))
 (pss_cons (ps_while PassesOwn.never (pt_cmpR op_gt (pe_op op_sub (pv 2) (pv 1)) pe_int (nomark _))
  (pss_cons (ps_set (i := 4) scfirst_turned.nd rfl (Or.inl rfl) (pe_op op_fdiv (pe_op op_add (pv 1) (pv 2)) pe_int))
 (pss_one (ps_if (pt_cmpR op_eq (pe_call Gsign_at (hr.mono (by omega)) (by rfl) T.gsign_at T.Fsign_at.kp T.bsign_at .nil pass0 (pa_cons (pv 0) (pa_cons (pv 4) pa_nil))) (pv 3) (nomark _))
  (pss_one (ps_set (i := 1) scfirst_turned.nd rfl (Or.inl rfl) (pv 4)))
  (pss_one (ps_set (i := 2) scfirst_turned.nd rfl (Or.inl rfl) (pv 4)))))))
 (pss_one (ps_ret (pv 2))))), ?_⟩
  refine ⟨_, rfl, _, rfl, a, p, lo, rfl, ha, hp.at (Int.le_refl _) (by omega), ?_⟩
  refine ⟨fun m σ H' => ∃ l h : Int, m = (h - l).toNat ∧ (∃ x4, σ = [some (.ref a), some (.int l), some (.int h), some (.int (sgX (ev p lo))), x4]) ∧ H' = H ∧ lo ≤ l ∧ l < h ∧ h ≤ hi ∧ sgX (ev p l) = sgX (ev p lo) ∧ sgX (ev p h) ≠ sgX (ev p lo), ⟨_, lo, hi, rfl, ⟨_, rfl⟩, rfl, Int.le_refl _, hlt, Int.le_refl _, rfl, hne.symm⟩, ?_⟩
  rintro m σ H' ⟨l, h, hm, ⟨x4, rfl⟩, rfl, h1, h2, h3, h4, h5⟩
  refine ⟨_, rfl, _, rfl, h, l, rfl, rfl, _, 1, rfl, rfl, _, rfl, ite2 (fun c => ?_) (fun c => ?_)⟩
  · have c2 : 1 < h - l := of_decide_eq_true c
    have b1 : l < (l + h) / 2 ∧ (l + h) / 2 < h := by omega
    refine ⟨fun σ' H2 => ∃ l2 h2 : Int, (h2 - l2).toNat < m ∧ (∃ x4, σ' = [some (.ref a), some (.int l2), some (.int h2), some (.int (sgX (ev p lo))), x4]) ∧ H2 = H' ∧ lo ≤ l2 ∧ l2 < h2 ∧ h2 ≤ hi ∧ sgX (ev p l2) = sgX (ev p lo) ∧ sgX (ev p h2) ≠ sgX (ev p lo), fun σ' H2 ⟨l2, h2, z1, z2⟩ => ⟨_, z1, l2, h2, rfl, z2⟩, ?_⟩
    refine ⟨_, rfl, _, rfl, l, h, rfl, rfl, _, 2, rfl, rfl, ⟨by decide, by decide⟩, ?_⟩
    refine ⟨_, rfl, _, rfl, a, p, _, rfl, ha, hp.at (by omega) (by omega), _, rfl, rfl, _, rfl, ite2 (fun d => ?_) (fun d => ?_)⟩
    · have d2 : sgX (ev p ((l + h) / 2)) = sgX (ev p lo) := V.int.inj (of_decide_eq_true d)
      exact ⟨_, rfl, (l + h) / 2, h, by omega, ⟨_, rfl⟩, rfl, by omega, by omega, h3, d2, h5⟩
    · have d2 : sgX (ev p ((l + h) / 2)) ≠ sgX (ev p lo) := fun z => d (decide_eq_true (by rw [z]))
      exact ⟨_, rfl, l, (l + h) / 2, by omega, ⟨_, rfl⟩, rfl, h1, by omega, by omega, h4, d2⟩
  · have c2 : ¬ 1 < h - l := fun z => c (decide_eq_true z)
    have e : h - 1 = l := by omega
    exact ⟨_, rfl, q h (by omega) h3 (by rw [e]; exact h4) h5⟩
theorem ok_starts (T : Tops K mg) : FnOk P w K mg base CX0 4 T.fsign_starts T.dsign_starts ["polynomial", "low", "high"] spStarts := by
  have Gsign_at : FnOk P w K mg base CX0 2 T.fsign_at T.dsign_at ["polynomial", "number"] spSgAt := ok_sgat T
  have Gfirst_turned : FnOk P w K mg base CX0 3 T.ffirst_turned T.dfirst_turned ["polynomial", "low", "high"] spTurned := ok_turned T
  refine T.Fsign_starts.ok (k := 3) scsign_starts (fun vs H Q E h => ?_) (fun cdv A outer s H vs Q E hr h => ?_)
  · obtain ⟨a, p, lo, hi, rfl, _⟩ := h
    rfl
  obtain ⟨a, p, lo, hi, rfl, ha, hle, hp, hmo, q⟩ := h
  refine ⟨_, (pss_cons (ps_set (i := 3) scsign_starts.nd rfl (Or.inl rfl) (pe_call Gsign_at (hr.mono (by omega)) (by rfl) T.gsign_at T.Fsign_at.kp T.bsign_at .nil pass0 (pa_cons (pv 0) (pa_cons (pv 2) pa_nil))))
 (pss_cons (ps_set (i := 4) scsign_starts.nd rfl (Or.inl rfl) (pe_lst (pa_cons (pv 1) pa_nil)))
 (pss_cons (ps_while PassesOwn.never (pt_cmpR op_ne (pe_call Gsign_at (hr.mono (by omega)) (by rfl) T.gsign_at T.Fsign_at.kp T.bsign_at .nil pass0 (pa_cons (pv 0) (pa_cons (pe_ix ix_list (pv 4) (pe_un un_neg pe_int) (fun _ _ => rfl)) pa_nil))) (pv 3) (nomark _))
  (pss_one (ps_expr (pe_bm PySem.F.plainAttrs_list PySem.F.slot_list_append PySem.F.type_list_append mt_append (pv 4) (pa_cons (pe_call Gfirst_turned (hr.mono (by omega)) (by rfl) T.gfirst_turned T.Ffirst_turned.kp T.bfirst_turned .nil pass0 (pa_cons (pv 0) (pa_cons (pe_ix ix_list (pv 4) (pe_un un_neg pe_int) (fun _ _ => rfl)) (pa_cons (pv 2) pa_nil)))) pa_nil)))))
 (pss_one (ps_ret (pv 4)))))), ?_⟩
  refine ⟨_, rfl, _, rfl, a, p, hi, rfl, ha, hp.at hle (Int.le_refl _), ?_⟩
  refine ⟨_, rfl, (by show 1 ≤ sizeLine; decide), fun b nb => ?_⟩
  have sb := same_new (o := .lst [.int lo]) nb
  refine ⟨fun m σ H' => ∃ (ss0 : List Int) (last : Int), m = (hi - last).toNat ∧ σ = [some (.ref a), some (.int lo), some (.int hi), some (.int (sgX (ev p hi))), some (.ref b)] ∧ Same H H' ∧ LAt H' b (ss0 ++ [last]) ∧ lo ≤ last ∧ last ≤ hi ∧ Pre (ev p) lo ss0 last ∧ ((ss0.length : Int) ≤ sgX (ev p last) - sgX (ev p lo) ∨ (ss0.length : Int) ≤ sgX (ev p lo) - sgX (ev p last)) ∧ ((∀ x y, lo ≤ x → x ≤ y → y ≤ hi → ev p x ≤ ev p y) → (ss0.length : Int) ≤ sgX (ev p last) - sgX (ev p lo)) ∧ ((∀ x y, lo ≤ x → x ≤ y → y ≤ hi → ev p y ≤ ev p x) → (ss0.length : Int) ≤ sgX (ev p lo) - sgX (ev p last)),
    ⟨_, [], lo, rfl, rfl, sb, upd_same, Int.le_refl _, hle, .inl ⟨rfl, rfl⟩, .inl (by show (0 : Int) ≤ _; omega), fun _ => by show (0 : Int) ≤ _; omega, fun _ => by show (0 : Int) ≤ _; omega⟩, ?_⟩
  rintro m σ H' ⟨ss0, last, hm, rfl, s2, hb, h1, h2, hpre, hcnt, hup, hdn⟩
  have hat : atI ((ss0 ++ [last]).map V.int) (-1) = some (.int last) := by
    rw [List.map_append]
    exact atI_last _ _
  have l3 : ss0.length ≤ 2 := by
    have := sgX_bd (ev p last)
    have := sgX_bd (ev p lo)
    omega
  refine ⟨_, rfl, _, rfl, 1, rfl, b, _, -1, _, rfl, rfl, SqL.of hb, hat, a, p, last, rfl, s2 _ _ ha, hp.at h1 h2, _, rfl, rfl, _, rfl, ite2 (fun c => ?_) (fun c => ?_)⟩
  · have c2 : sgX (ev p last) ≠ sgX (ev p hi) := fun z => by
      have : (!decide (V.int (sgX (ev p last)) = V.int (sgX (ev p hi)))) = true := c
      rw [z, decide_eq_true rfl] at this
      cases this
    have hlt : last < hi := by
      rcases Int.lt_or_le last hi with z | z
      · exact z
      · exact absurd (by rw [show last = hi by omega]) c2
    refine ⟨fun σ' H2 => ∃ (h : Int), last < h ∧ σ' = [some (.ref a), some (.int lo), some (.int hi), some (.int (sgX (ev p hi))), some (.ref b)] ∧ Same H H2 ∧ LAt H2 b ((ss0 ++ [last]) ++ [h]) ∧ h ≤ hi ∧ Pre (ev p) lo (ss0 ++ [last]) h ∧ sgX (ev p h) ≠ sgX (ev p last), fun σ' H2 ⟨h, g1, g2, g3, g4, g5, g6, g7⟩ => ⟨(hi - h).toNat, by omega, ss0 ++ [last], h, rfl, g2, g3, g4, by omega, g5, g6, ?_, ?_, ?_⟩, ?_⟩
    · rcases hmo with mo | mo
      · left
        have k1 := hup mo
        have k2 := sgX_le (mo last h h1 (by omega) g5)
        rw [List.length_append]
        show ((ss0.length + 1 : Nat) : Int) ≤ _
        omega
      · right
        have k1 := hdn mo
        have k2 := sgX_le (mo last h h1 (by omega) g5)
        rw [List.length_append]
        show ((ss0.length + 1 : Nat) : Int) ≤ _
        omega
    · intro mo
      have k1 := hup mo
      have k2 := sgX_le (mo last h h1 (by omega) g5)
      rw [List.length_append]
      show ((ss0.length + 1 : Nat) : Int) ≤ _
      omega
    · intro mo
      have k1 := hdn mo
      have k2 := sgX_le (mo last h h1 (by omega) g5)
      rw [List.length_append]
      show ((ss0.length + 1 : Nat) : Int) ≤ _
      omega
    refine ⟨_, rfl, .inl ⟨rfl, _, SqL.of hb⟩, _, rfl, _, rfl, 1, rfl, b, _, -1, _, rfl, rfl, SqL.of hb, hat, _, rfl, a, p, last, hi, rfl, s2 _ _ ha, hlt, hp.sub h1 h2 hle (Int.le_refl _), c2, fun h g1 g2 g3 g4 => ?_⟩
    refine ⟨b, _, _, rfl, rfl, hb, szl (by rw [List.length_map, List.length_append]; show ss0.length + 1 < 100000; omega), h, g1, rfl, Same.upd_new s2 nb, ?_, g2, .inr ?_, g4⟩
    · show (upd H' b _) b = some (HO.lst (((ss0 ++ [last]) ++ [h]).map V.int))
      rw [upd_same, List.map_append (l₁ := ss0 ++ [last])]
      rfl
    · refine hpre.close (by omega) fun x x1 x2 => ?_
      exact hmo.sg h1 x1 x2 (by omega) g3.symm
  · have c2 : sgX (ev p last) = sgX (ev p hi) := by
      have : ¬ (!decide (V.int (sgX (ev p last)) = V.int (sgX (ev p hi)))) = true := c
      by_cases z : sgX (ev p last) = sgX (ev p hi)
      · exact z
      · rw [decide_eq_false (fun y => z (V.int.inj y))] at this
        exact absurd rfl this
    refine ⟨_, rfl, q b (ss0 ++ [last]) H' s2 nb hb (hpre.close h2 fun x x1 x2 => hmo.sg h1 x1 x2 (Int.le_refl _) c2) ?_⟩
    rw [List.length_append]
    show ss0.length + 1 ≤ 3
    omega
theorem ok_ends (T : Tops K mg) : FnOk P w K mg base CX0 1 T.fends_of T.dends_of ["starts", "high"] spEnds := by
  refine T.Fends_of.ok (k := 0) scends_of (fun vs H Q E h => ?_) (fun cdv A outer s H vs Q E hr h => ?_)
  · obtain ⟨a, ss, hi, rfl, _⟩ := h
    rfl
  obtain ⟨a, ss, hi, rfl, ha, hne, hl, q⟩ := h
  refine ⟨_, (pss_one (ps_ret (pe_op op_cat (pe_lc (own := [("start", 2)]) rfl scends_of.nd (pi_list (pe_slice sl_list (pv 0) (po_some pe_int) po_none)) (blkOk_by (N := Nends_of) (sc := defScope sends_of) (by decide +kernel)) (fun _ _ _ _ _ => (pg_name (i := 2) scends_of.nd rfl (Or.inl rfl))) (fun _ _ _ _ _ => pts_nil) (fun _ _ _ _ _ => (pe_op op_sub (pv 2) pe_int))) (pe_lst (pa_cons (pv 1) pa_nil))))), ?_⟩
  obtain ⟨s0, r, rfl⟩ := List.exists_cons_of_ne_nil hne
  refine ⟨_, rfl, 1, rfl, ?_⟩
  dsimp only [tNoPart]
  refine ⟨a, _, rfl, SqL.of ha, fun c nc => ?_⟩
  have ec : cutV ((s0 :: r).map V.int) (some 1) none = r.map V.int := by
    unfold cutV
    rw [HT.sIx_none]
    show (((s0 :: r).map V.int).drop (HT.sIx ((s0 :: r).map V.int).length 0 (some ((1 : Nat) : Int)))).take (((s0 :: r).map V.int).length - HT.sIx ((s0 :: r).map V.int).length 0 (some ((1 : Nat) : Int))) = _
    rw [HT.sIx_nat, List.length_map]
    show (((s0 :: r).map V.int).drop (min 1 (r.length + 1))).take (r.length + 1 - min 1 (r.length + 1)) = _
    rw [Nat.min_eq_left (by omega)]
    show ((r.map V.int)).take (r.length + 1 - 1) = _
    rw [Nat.add_sub_cancel, List.take_of_length_le (by rw [List.length_map]; exact Nat.le_refl _)]
  rw [ec]
  have sc := same_new (o := .lst (r.map V.int)) nc
  have lr : r.length + 1 < 90000 := hl
  refine ⟨c, rfl, ⟨_, SqL.of upd_same⟩, fun D nD => ?_⟩
  have nDH := sc.free nD
  refine lc_list_map (K := K) (r.map fun x => V.int (x - 1)) 2 rfl (fun v => rfl) (by rw [List.length_map, List.length_map]) (by rw [List.length_map]; omega) upd_same nD (fun j x y H9 Q9 hx hy s9 k9 => ?_) (fun H9 s9 hD => ?_)
  · obtain ⟨z, hz⟩ : ∃ z, r[j]? = some z := by
      have := (List.getElem?_eq_some_iff.mp hx).1
      rw [List.length_map] at this
      exact ⟨_, List.getElem?_eq_getElem this⟩
    rw [mapI_get hz] at hx
    rw [List.getElem?_map, hz] at hy
    cases hx
    cases hy
    exact ⟨_, rfl, z, 1, rfl, rfl, k9 H9 (Same.refl H9)⟩
  refine ⟨_, rfl, (by show 1 ≤ sizeLine; decide), fun e ne => ?_⟩
  have se := same_new (o := .lst [.int hi]) ne
  refine ⟨D, e, _, _, rfl, rfl, se _ _ hD, upd_same, ?_, fun b nb => ?_⟩
  · rw [List.length_map]
    show r.length + 1 ≤ sizeLine
    exact sz (by omega)
  have sAll := (sc.trans s9).trans se
  refine q b _ (sAll.trans (same_new nb)) (sAll.free nb) ?_
  show (upd _ b _) b = some (HO.lst _)
  rw [upd_same, endsL_eq, List.map_append, List.map_map]
  rfl
end
end K18

set_option Elab.async false
set_option linter.all false
set_option maxRecDepth 100000
set_option maxHeartbeats 4000000
namespace K18
open PySem PySem.Spec PyProof.Rows L2 OG
open C8 (pss_cut pe_gc)
open OGX

section
variable {P : Program} {w : World} {K : PySem.W.Frag} {mg : Str → Option Value} {base : Heap}
theorem atI_row (f : Int → Int) (lo : Int) (n : Nat) : atI ((rowF f lo (n + 1)).map V.int) (-1) = some (.int (f (lo + n))) := by
  rw [rowF_snoc, List.map_append]
  exact atI_last _ _
theorem row_zero (f : Int → Int) (lo : Int) (n : Nat) : atI ((rowF f lo (n + 1)).map V.int) 0 = some (.int (f lo)) := by
  have h := mapI_get (rowF_get (f := f) (lo := lo) (n := n + 1) (i := 0) (by omega))
  rw [show lo + ((0 : Nat) : Int) = lo by omega] at h
  exact atI_nat (j := 0) h
theorem ok_steady (T : Tops K mg) : FnOk P w K mg base CX0 3 T.fis_steady T.dis_steady ["polynomial", "low", "high", "sign"] spSteadyF := by
  have Gsign_at : FnOk P w K mg base CX0 2 T.fsign_at T.dsign_at ["polynomial", "number"] spSgAt := ok_sgat T
  have Gsign_of : FnOk P w K mg base CX0 1 T.fsign_of T.dsign_of ["number"] spSg := ok_sg T
  have Gvalues_from : FnOk P w K mg base CX0 2 T.fvalues_from T.dvalues_from ["polynomial", "first", "many"] spVals := ok_vals T
  have Ggaps : FnOk P w K mg base CX0 1 T.fgaps T.dgaps ["numbers"] spGaps := ok_gaps T
  refine T.Fis_steady.ok (k := 2) scis_steady (fun vs H Q E h => ?_) (fun cdv A outer s H vs Q E hr h => ?_)
  · obtain ⟨a, p, lo, hi, s, rfl, _⟩ := h
    rfl
  obtain ⟨a, p, lo, hi, s, rfl, ha, hle, hp, hl, q⟩ := h
  refine ⟨_, (pss_cons (ps_if (PW.pt (pw_or (pt_cmpR op_ne (pe_call Gsign_at (hr.mono (by omega)) (by rfl) T.gsign_at T.Fsign_at.kp T.bsign_at .nil pass0 (pa_cons (pv 0) (pa_cons (pv 1) pa_nil))) (pv 3) (nomark _)) (pw_or1 (pt_cmpR op_ne (pe_call Gsign_at (hr.mono (by omega)) (by rfl) T.gsign_at T.Fsign_at.kp T.bsign_at .nil pass0 (pa_cons (pv 0) (pa_cons (pv 2) pa_nil))) (pv 3) (nomark _)))))
  (pss_one (ps_ret pe_bl))
  pss_nil)
 (pss_cons (ps_set (i := 4) scis_steady.nd rfl (Or.inl rfl) (pe_callB (call_min2 rfl) (by rfl) T.mmin (by decide +kernel) (pa_cons (pe_op op_sub (pe_callB call_len_seq (by rfl) T.mlen PySem.boot_len (pa_cons (pv 0) pa_nil)) pe_int) (pa_cons (pe_op op_sub (pv 2) (pv 1)) pa_nil))))
 (pss_cons (ps_set (i := 5) scis_steady.nd rfl (Or.inl rfl) (pe_call Gvalues_from (hr.mono (by omega)) (by rfl) T.gvalues_from T.Fvalues_from.kp T.bvalues_from .nil pass0 (pa_cons (pv 0) (pa_cons (pv 1) (pa_cons (pe_op op_add (pv 4) pe_int) pa_nil)))))
 (pss_cons (ps_set (i := 6) scis_steady.nd rfl (Or.inl rfl) (pe_call Gvalues_from (hr.mono (by omega)) (by rfl) T.gvalues_from T.Fvalues_from.kp T.bvalues_from .nil pass0 (pa_cons (pv 0) (pa_cons (pe_op op_sub (pv 2) (pv 4)) (pa_cons (pe_op op_add (pv 4) pe_int) pa_nil)))))
 (pss_cons (ps_for PassesOwn.never rfl (pi_range1 (by rfl) T.mrange (pa_cons (pv 4) pa_nil)) (pg_name (i := 7) scis_steady.nd rfl (Or.inl rfl))
  (pss_cons (ps_set (i := 5) scis_steady.nd rfl (Or.inl rfl) (pe_call Ggaps (hr.mono (by omega)) (by rfl) T.ggaps T.Fgaps.kp T.bgaps .nil pass0 (pa_cons (pv 5) pa_nil)))
 (pss_cons (ps_set (i := 6) scis_steady.nd rfl (Or.inl rfl) (pe_call Ggaps (hr.mono (by omega)) (by rfl) T.ggaps T.Fgaps.kp T.bgaps .nil pass0 (pa_cons (pv 6) pa_nil)))
 (pss_one (ps_if (pt_cmpR op_lt (pe_op op_mul (pe_call Gsign_of (hr.mono (by omega)) (by rfl) T.gsign_of T.Fsign_of.kp T.bsign_of .nil pass0 (pa_cons (pe_ix ix_list (pv 5) pe_int (fun _ _ => rfl)) pa_nil)) (pe_call Gsign_of (hr.mono (by omega)) (by rfl) T.gsign_of T.Fsign_of.kp T.bsign_of .nil pass0 (pa_cons (pe_ix ix_list (pv 6) (pe_un un_neg pe_int) (fun _ _ => rfl)) pa_nil))) pe_int (nomark _))
  (pss_one (ps_ret pe_bl))
  pss_nil)))))
 (pss_one (ps_ret pe_bl))))))), ?_⟩
  have no : ¬ SteadyP p lo hi s → Q (.bl false) H := fun n => q false H (Same.refl H) ⟨(fun z => by cases z), fun z => absurd z n⟩
  have yesd : ∀ {x : Int}, (!decide (V.int x = V.int s)) = true → x ≠ s := fun {x} c e => by
    rw [e, decide_eq_true rfl] at c
    cases c
  refine ⟨_, rfl, _, rfl, a, p, lo, rfl, ha, hp.at (Int.le_refl _) hle, _, rfl, rfl, _, rfl, ite2 (fun c => iteT (no fun z => yesd c z.1)) (fun c => ?_)⟩
  refine ⟨_, rfl, _, rfl, a, p, hi, rfl, ha, hp.at hle (Int.le_refl _), _, rfl, rfl, _, rfl, ite2 (fun c' => no fun z => yesd c' z.2.1) (fun c' => ?_)⟩
  have un : ∀ {x y : Int}, ¬ (!decide (V.int x = V.int y)) = true → x = y := fun {x y} z => by
    by_cases e : x = y
    · exact e
    · rw [decide_eq_false (fun y => e (V.int.inj y))] at z
      exact absurd rfl z
  have ea : sgX (ev p lo) = s := un c
  have eb : sgX (ev p hi) = s := un c'
  refine ⟨_, rfl, a, _, rfl, .inl (SqL.of ha), ?_⟩
  rw [List.length_map]
  refine ⟨_, 1, rfl, rfl, _, rfl, _, rfl, hi, lo, rfl, rfl, _, _, rfl, ?_⟩
  generalize hM : (if hi - lo < (p.length : Int) - 1 then hi - lo else (p.length : Int) - 1) = M
  have hM1 : M ≤ hi - lo ∧ M ≤ (p.length : Int) - 1 ∧ (M = hi - lo ∨ M = (p.length : Int) - 1) := by
    rw [← hM]
    split <;> omega
  have hM0 : -1 ≤ M := by omega
  obtain ⟨n1, hn1⟩ : ∃ n1 : Nat, M + 1 = n1 := ⟨(M + 1).toNat, by omega⟩
  refine ⟨_, rfl, _, rfl, _, rfl, M, 1, rfl, rfl, a, p, lo, n1, by rw [← hn1]; rfl, ha, by omega, fun i hi' => hp.at (by omega) (by omega), fun b1 H1 s1 nb1 hb1 => ?_⟩
  refine ⟨_, rfl, _, rfl, _, rfl, hi, M, rfl, rfl, _, rfl, M, 1, rfl, rfl, a, p, hi - M, n1, by rw [← hn1]; rfl, s1 _ _ ha, by omega, fun i hi' => hp.at (by omega) (by omega), fun b2 H2 s2 nb2 hb2 => ?_⟩
  refine ⟨_, rfl, M, rfl, by omega, by omega, ?_⟩
  have s02 := s1.trans s2
  refine for_range (lo := 0) (n := M.toNat) (fun k σ H' => Same H H' ∧ ∃ (c1 c2 : Addr) (x7 : Option V), σ = [some (.ref a), some (.int lo), some (.int hi), some (.int s), some (.int M), some (.ref c1), some (.ref c2), x7] ∧ LAt H' c1 (rowF (dk k (ev p)) lo (n1 - k)) ∧ LAt H' c2 (rowF (dk k (ev p)) (hi - M) (n1 - k)) ∧ ∀ j : Nat, 1 ≤ j → j ≤ k → ¬ sgX (dk j (ev p) lo) * sgX (dk j (ev p) (hi - j)) < 0)
    ⟨s02, b1, b2, _, rfl, s2 _ _ hb1, hb2, fun j h1 h2 => by omega⟩ (fun k σ H3 hk hP => ?_) (fun σ H3 hP => ?_)
  · obtain ⟨s3, c1, c2, x7, rfl, h1, h2, ht⟩ := hP
    obtain ⟨n, hn⟩ : ∃ n, n1 - k = n + 1 + 1 := ⟨n1 - k - 2, by omega⟩
    have hn' : n1 - (k + 1) = n + 1 := by omega
    rw [hn] at h1 h2
    refine ⟨_, rfl, c1, _, lo, n + 1, rfl, h1, by omega, fun d1 H4 s4 nd1 hd1 => ?_⟩
    refine ⟨_, rfl, c2, _, hi - M, n + 1, rfl, s4 _ _ h2, by omega, fun d2 H5 s5 nd2 hd2 => ?_⟩
    have hd1' := s5 _ _ hd1
    refine ⟨_, rfl, d1, _, 0, _, rfl, rfl, SqL.of hd1', row_zero _ _ _, _, rfl, _, rfl, 1, rfl, d2, _, -1, _, rfl, rfl, SqL.of hd2, atI_row _ _ _, _, rfl, _, _, rfl, rfl, .inl ⟨?_, ?_⟩, _, 0, rfl, rfl, _, rfl, ite2 (fun c => ?_) (fun c => ?_)⟩
    · have := sgX_bd (OG.dl (dk k (ev p)) lo)
      have e : (-(2 ^ 64) : Int) < -1 := by decide
      omega
    · have := sgX_bd (OG.dl (dk k (ev p)) lo)
      have e : (1 : Int) < 2 ^ 64 := by decide
      omega
    · refine q false H5 ((s3.trans s4).trans s5) ⟨(fun z => by cases z), fun z => absurd ?_ (z.2.2 (k + 1) (by omega) (by omega) (by omega))⟩
      have e1 : hi - M + (n : Int) = hi - ((k + 1 : Nat) : Int) := by omega
      have c3 := of_decide_eq_true c
      rw [e1] at c3
      exact c3
    · have e1 : hi - M + (n : Int) = hi - ((k + 1 : Nat) : Int) := by omega
      have c3 : ¬ sgX (dk (k + 1) (ev p) lo) * sgX (dk (k + 1) (ev p) (hi - ((k + 1 : Nat) : Int))) < 0 := fun z => c (decide_eq_true (by rw [e1]; exact z))
      refine ⟨(s3.trans s4).trans s5, d1, d2, _, rfl, ?_, ?_, fun j j1 j2 => ?_⟩
      · rw [hn']
        exact hd1'
      · rw [hn']
        exact hd2
      · by_cases e : j = k + 1
        · rw [e]
          exact c3
        · exact ht j j1 (by omega)
  · obtain ⟨s3, c1, c2, x7, rfl, h1, h2, ht⟩ := hP
    exact q true H3 s3 ⟨fun _ => ⟨ea, eb, fun j j1 j2 j3 => ht j j1 (by omega)⟩, fun _ => rfl⟩
theorem ok_endless (T : Tops K mg) : FnOk P w K mg base CX0 3 T.fis_endless T.dis_endless ["polynomial", "low", "sign"] spEndlessF := by
  have Gsign_at : FnOk P w K mg base CX0 2 T.fsign_at T.dsign_at ["polynomial", "number"] spSgAt := ok_sgat T
  have Gsign_of : FnOk P w K mg base CX0 1 T.fsign_of T.dsign_of ["number"] spSg := ok_sg T
  have Gvalues_from : FnOk P w K mg base CX0 2 T.fvalues_from T.dvalues_from ["polynomial", "first", "many"] spVals := ok_vals T
  have Ggaps : FnOk P w K mg base CX0 1 T.fgaps T.dgaps ["numbers"] spGaps := ok_gaps T
  refine T.Fis_endless.ok (k := 2) scis_endless (fun vs H Q E h => ?_) (fun cdv A outer s H vs Q E hr h => ?_)
  · obtain ⟨a, p, lo, s, rfl, _⟩ := h
    rfl
  obtain ⟨a, p, lo, s, rfl, ha, hl, hp, hpi, q⟩ := h
  refine ⟨_, (pss_cons (ps_if (pt_cmpR op_ne (pe_call Gsign_at (hr.mono (by omega)) (by rfl) T.gsign_at T.Fsign_at.kp T.bsign_at .nil pass0 (pa_cons (pv 0) (pa_cons (pv 1) pa_nil))) (pv 2) (nomark _))
  (pss_one (ps_ret pe_bl))
  pss_nil)
 (pss_cons (ps_set (i := 3) scis_endless.nd rfl (Or.inl rfl) (pe_call Gvalues_from (hr.mono (by omega)) (by rfl) T.gvalues_from T.Fvalues_from.kp T.bvalues_from .nil pass0 (pa_cons (pv 0) (pa_cons (pv 1) (pa_cons (pe_callB call_len_seq (by rfl) T.mlen PySem.boot_len (pa_cons (pv 0) pa_nil)) pa_nil)))))
 (pss_cons (ps_while PassesOwn.never (pt_cmpR op_gt (pe_callB call_len_seq (by rfl) T.mlen PySem.boot_len (pa_cons (pv 3) pa_nil)) pe_int (nomark _))
  (pss_cons (ps_set (i := 3) scis_endless.nd rfl (Or.inl rfl) (pe_call Ggaps (hr.mono (by omega)) (by rfl) T.ggaps T.Fgaps.kp T.bgaps .nil pass0 (pa_cons (pv 3) pa_nil)))
 (pss_one (ps_if (pt_cmpR op_eq (pe_call Gsign_of (hr.mono (by omega)) (by rfl) T.gsign_of T.Fsign_of.kp T.bsign_of .nil pass0 (pa_cons (pe_ix ix_list (pv 3) pe_int (fun _ _ => rfl)) pa_nil)) (pe_un un_neg (pv 2)) (nomark _))
  (pss_one (ps_ret pe_bl))
  pss_nil))))
 (pss_one (ps_ret pe_bl))))), ?_⟩
  have un : ∀ {x y : Int}, ¬ (!decide (V.int x = V.int y)) = true → x = y := fun {x y} z => by
    by_cases e : x = y
    · exact e
    · rw [decide_eq_false (fun y => e (V.int.inj y))] at z
      exact absurd rfl z
  refine ⟨_, rfl, _, rfl, a, p, lo, rfl, ha, hp, _, rfl, rfl, _, rfl, ite2 (fun c => ?_) (fun c => ?_)⟩
  · refine q false H (Same.refl H) ⟨(fun z => by cases z), fun z => ?_⟩
    have c2 : (!decide (V.int (sgX (ev p lo)) = V.int s)) = true := c
    rw [z.1, decide_eq_true rfl] at c2
    cases c2
  have ea : sgX (ev p lo) = s := un c
  refine ⟨_, rfl, _, rfl, _, rfl, a, _, rfl, .inl (SqL.of ha), a, p, lo, p.length, by rw [List.length_map]; rfl, ha, by omega, hpi, fun b1 H1 s1 nb1 hb1 => ?_⟩
  refine ⟨fun m σ H' => ∃ (k : Nat) (c1 : Addr), m = p.length - k ∧ σ = [some (.ref a), some (.int lo), some (.int s), some (.ref c1)] ∧ Same H H' ∧ LAt H' c1 (rowF (dk k (ev p)) lo (p.length - k)) ∧ (k = 0 ∨ k + 1 ≤ p.length) ∧ ∀ j : Nat, 1 ≤ j → j ≤ k → sgX (dk j (ev p) lo) ≠ - s, ⟨_, 0, b1, rfl, rfl, s1, hb1, .inl rfl, fun j h1 h2 => by omega⟩, ?_⟩
  rintro m σ H2 ⟨k, c1, hm, rfl, s2, h1, hk, ht⟩
  refine ⟨_, rfl, c1, _, rfl, .inl (SqL.of h1), ?_⟩
  rw [List.length_map, rowF_len]
  refine ⟨_, 1, rfl, rfl, _, rfl, ite2 (fun c => ?_) (fun c => ?_)⟩
  · have c2 : (1 : Int) < ((p.length - k : Nat) : Int) := of_decide_eq_true c
    obtain ⟨n, hn⟩ : ∃ n, p.length - k = n + 1 + 1 := ⟨p.length - k - 2, by omega⟩
    rw [hn] at h1
    refine ⟨fun σ' H3 => ∃ (d1 : Addr), σ' = [some (.ref a), some (.int lo), some (.int s), some (.ref d1)] ∧ Same H H3 ∧ LAt H3 d1 (rowF (dk (k + 1) (ev p)) lo (n + 1)) ∧ sgX (dk (k + 1) (ev p) lo) ≠ - s, fun σ' H3 ⟨d1, g1, g2, g3, g4⟩ => ⟨p.length - (k + 1), by omega, k + 1, d1, rfl, g1, g2, by rw [show p.length - (k + 1) = n + 1 by omega]; exact g3, .inr (by omega), fun j j1 j2 => ?_⟩, ?_⟩
    · by_cases e : j = k + 1
      · rw [e]
        exact g4
      · exact ht j j1 (by omega)
    refine ⟨_, rfl, c1, _, lo, n + 1, rfl, h1, by omega, fun d1 H4 s4 nd1 hd1 => ?_⟩
    refine ⟨_, rfl, d1, _, 0, _, rfl, rfl, SqL.of hd1, row_zero _ _ _, _, rfl, _, rfl, s, rfl, rfl, _, rfl, ite2 (fun d => ?_) (fun d => ?_)⟩
    · exact q false H4 (s2.trans s4) ⟨(fun z => by cases z), fun z => absurd (V.int.inj (of_decide_eq_true d)) (z.2 (k + 1) (by omega) (by omega))⟩
    · exact ⟨d1, rfl, s2.trans s4, hd1, fun z => d (decide_eq_true (congrArg V.int z))⟩
  · have c2 : ¬ (1 : Int) < ((p.length - k : Nat) : Int) := fun z => c (decide_eq_true z)
    exact q true H2 s2 ⟨fun _ => ⟨ea, fun j j1 j2 => ht j j1 (by omega)⟩, fun _ => rfl⟩
end
end K18

set_option Elab.async false
set_option linter.all false
set_option maxRecDepth 100000
set_option maxHeartbeats 4000000
namespace K18
open PySem PySem.Spec PyProof.Rows L2 OG
open C8 (pss_cut pe_gc)
open OGX

section
variable {P : Program} {w : World} {K : PySem.W.Frag} {mg : Str → Option Value} {base : Heap}
theorem ok_runs (T : Tops K mg) : FnOk P w K mg base CX0 5 T.fruns T.druns ["polynomial", "low", "high"] spRunsF := by
  have Gsign_at : FnOk P w K mg base CX0 2 T.fsign_at T.dsign_at ["polynomial", "number"] spSgAt := ok_sgat T
  have Gdifference : FnOk P w K mg base CX0 2 T.fdifference T.ddifference ["polynomial"] spDif := ok_dif T
  have Gsign_starts : FnOk P w K mg base CX0 4 T.fsign_starts T.dsign_starts ["polynomial", "low", "high"] spStarts := ok_starts T
  have Gends_of : FnOk P w K mg base CX0 1 T.fends_of T.dends_of ["starts", "high"] spEnds := ok_ends T
  refine T.Fruns.ok (k := 4) scruns (fun vs H Q E h => ?_) (fun cdv A outer s H vs Q E hr h => ?_)
  · obtain ⟨a, p, lo, hi, rfl, _⟩ := h
    rfl
  obtain ⟨a, p, lo, hi, rfl, ha, hl, hp, q⟩ := h
  refine ⟨_, (pss_cons (ps_if (pt_cmpR op_gt (pv 1) (pv 2) (nomark _))
  (pss_one (ps_ret (pe_lst pa_nil)))
  pss_nil)
 (pss_cons (ps_set (i := 3) scruns.nd rfl (Or.inl rfl) (pe_lst (pa_cons (pv 0) pa_nil)))
 (pss_cons (ps_while PassesOwn.never (pt_cmpR op_gt (pe_callB call_len_seq (by rfl) T.mlen PySem.boot_len (pa_cons (pe_ix ix_list (pv 3) (pe_un un_neg pe_int) (fun _ _ => rfl)) pa_nil)) pe_int (nomark _))
  (pss_one (ps_expr (pe_bm PySem.F.plainAttrs_list PySem.F.slot_list_append PySem.F.type_list_append mt_append (pv 3) (pa_cons (pe_call Gdifference (hr.mono (by omega)) (by rfl) T.gdifference T.Fdifference.kp T.bdifference .nil pass0 (pa_cons (pe_ix ix_list (pv 3) (pe_un un_neg pe_int) (fun _ _ => rfl)) pa_nil)) pa_nil)))))
 (pss_cons (ps_set (i := 4) scruns.nd rfl (Or.inl rfl) (pe_lst (pa_cons (pv 1) pa_nil)))
 (pss_cons (ps_for PassesOwn.never rfl (pi_reversed (by rfl) T.mreversed (pa_cons (pv 3) pa_nil)) (pg_name (i := 5) scruns.nd rfl (Or.inl rfl))
  (pss_cons (ps_set (i := 6) scruns.nd rfl (Or.inl rfl) (pe_lst pa_nil))
 (pss_cons (ps_for PassesOwn.never rfl (RZ.pi_zipA (by rfl) T.mzip (pa_cons (pv 4) (pa_cons (pe_call Gends_of (hr.mono (by omega)) (by rfl) T.gends_of T.Fends_of.kp T.bends_of .nil pass0 (pa_cons (pv 4) (pa_cons (pv 2) pa_nil))) pa_nil))) (pg_tup rfl (pgs_cons (pg_name (i := 7) scruns.nd rfl (Or.inl rfl)) (pgs_cons (pg_name (i := 8) scruns.nd rfl (Or.inl rfl)) pgs_nil)))
  (pss_one (ps_expr (pe_bm PySem.F.plainAttrs_list PySem.F.slot_list_extend PySem.F.type_list_extend mt_extend (pv 6) (pa_cons (pe_call Gsign_starts (hr.mono (by omega)) (by rfl) T.gsign_starts T.Fsign_starts.kp T.bsign_starts .nil pass0 (pa_cons (pv 5) (pa_cons (pv 7) (pa_cons (pv 8) pa_nil)))) pa_nil)))))
 (pss_one (ps_set (i := 4) scruns.nd rfl (Or.inl rfl) (pv 6))))))
 (pss_one (ps_ret (pe_lc (own := [("first", 7), ("last", 8)]) rfl scruns.nd (RZ.pi_zipA (by rfl) T.mzip (pa_cons (pv 4) (pa_cons (pe_call Gends_of (hr.mono (by omega)) (by rfl) T.gends_of T.Fends_of.kp T.bends_of .nil pass0 (pa_cons (pv 4) (pa_cons (pv 2) pa_nil))) pa_nil))) (blkOk_by (N := Nruns) (sc := defScope sruns) (by decide +kernel)) (fun _ _ _ _ _ => (pg_tupK (K := K) (n := 2) rfl rfl (pgs_cons (pg_name (i := 7) scruns.nd rfl (Or.inl rfl)) (pgs_cons (pg_name (i := 8) scruns.nd rfl (Or.inl rfl)) pgs_nil)))) (fun _ _ _ _ _ => pts_nil) (fun _ _ _ _ _ => (pe_tup (pa_cons (pv 7) (pa_cons (pv 8) (pa_cons (pe_call Gsign_at (hr.mono (by omega)) (by rfl) T.gsign_at T.Fsign_at.kp T.bsign_at .nil pass0 (pa_cons (pv 0) (pa_cons (pv 7) pa_nil))) pa_nil))))))))))))), ?_⟩
  refine ⟨_, rfl, _, rfl, lo, hi, rfl, rfl, _, rfl, ite2 (fun c => ?_) (fun c => ?_)⟩
  · have c2 : hi < lo := of_decide_eq_true c
    refine ⟨Nat.zero_le _, fun b nb => ?_⟩
    exact q b [] [] _ (same_new nb) nb upd_same (.inl ⟨c2, rfl⟩)
  have hle : lo ≤ hi := by
    have : ¬ hi < lo := fun z => c (decide_eq_true z)
    omega
  replace hp := hp hle
  -- the ladder
  refine ⟨_, rfl, (by show 1 ≤ sizeLine; decide), fun ld nld => ?_⟩
  have sld := same_new (o := .lst [.ref a]) nld
  refine ⟨fun m σ H' => ∃ (n : Nat) (as : List Addr), m = (difk n p).length ∧ (∃ x4 x5 x6 x7 x8, σ = [some (.ref a), some (.int lo), some (.int hi), some (.ref ld), x4, x5, x6, x7, x8]) ∧ Same H H' ∧ H' ld = some (.lst (as.map V.ref)) ∧ as.length = n + 1 ∧ n ≤ 9 ∧ (difk n p).length + n ≤ 10 ∧ n ≤ p.length - 1 ∧ ∀ (k : Nat) (b : Addr), as[k]? = some b → LAt H' b (difk k p) ∧ b ≠ ld,
    ⟨_, 0, [a], rfl, ⟨_, _, _, _, _, rfl⟩, sld, upd_same, rfl, by omega, by show p.length + 0 ≤ 10; omega, Nat.zero_le _, fun k b hb => ?_⟩, ?_⟩
  · cases k with
    | zero =>
      cases hb
      exact ⟨sld _ _ ha, ne_of_none ha nld⟩
    | succ k => simp at hb
  rintro m σ H1 ⟨n, as, hm, ⟨x4, x5, x6, x7, x8, rfl⟩, s1, hld, las, n9, n10, npl, has⟩
  obtain ⟨as0, aL, rfl⟩ : ∃ as0 aL, as = as0 ++ [aL] := by
    rcases List.eq_nil_or_concat as with e | ⟨r0, c, e⟩
    · rw [e] at las
      cases las
    · exact ⟨r0, c, by rw [e, List.concat_eq_append]⟩
  have las0 : as0.length = n := by
    rw [List.length_append] at las
    have : as0.length + 1 = n + 1 := las
    omega
  have haL : LAt H1 aL (difk n p) ∧ aL ≠ ld := has n aL (by rw [← las0]; simp)
  have hat : atI ((as0 ++ [aL]).map V.ref) (-1) = some (.ref aL) := by
    rw [List.map_append]
    exact atI_last _ _
  refine ⟨_, rfl, 1, rfl, ld, _, -1, _, rfl, rfl, SqL.of hld, hat, aL, _, rfl, .inl (SqL.of haL.1), ?_⟩
  rw [List.length_map]
  refine ⟨_, 1, rfl, rfl, _, rfl, ite2 (fun c => ?_) (fun c => ?_)⟩
  · have c2 : (1 : Int) < ((difk n p).length : Int) := of_decide_eq_true c
    have npl2 : n + 1 ≤ p.length - 1 := by
      rcases difk_len n p with z | z
      · omega
      · rw [z] at c2
        exact absurd c2 (by decide)
    have dl1 : (difk (n + 1) p).length + 1 ≤ (difk n p).length := dif_len (fun z => by rw [z] at c2; exact absurd c2 (by decide))
    refine ⟨fun σ' H2 => ∃ (b : Addr), (∃ x4 x5 x6 x7 x8, σ' = [some (.ref a), some (.int lo), some (.int hi), some (.ref ld), x4, x5, x6, x7, x8]) ∧ Same H H2 ∧ H2 ld = some (.lst ((as0 ++ [aL] ++ [b]).map V.ref)) ∧ (∀ (k : Nat) (d : Addr), (as0 ++ [aL])[k]? = some d → LAt H2 d (difk k p) ∧ d ≠ ld) ∧ LAt H2 b (difk (n + 1) p) ∧ b ≠ ld, fun σ' H2 ⟨b, g1, g2, g3, g4, g5, g6⟩ => ⟨(difk (n + 1) p).length, by omega, n + 1, as0 ++ [aL] ++ [b], rfl, g1, g2, g3, by rw [List.length_append, las]; rfl, by omega, by omega, npl2, fun k d hd => ?_⟩, ?_⟩
    · by_cases hk : k < n + 1
      · rw [List.getElem?_append_left (by omega)] at hd
        exact g4 k d hd
      · rw [List.getElem?_append_right (by omega), las] at hd
        have hk2 : k = n + 1 := by
          have := (List.getElem?_eq_some_iff.mp hd).1
          have : k - (n + 1) < 1 := this
          omega
        rw [hk2, Nat.sub_self] at hd
        cases hd
        rw [hk2]
        exact ⟨g5, g6⟩
    refine ⟨_, rfl, .inl ⟨rfl, _, SqL.of hld⟩, _, rfl, 1, rfl, ld, _, -1, _, rfl, rfl, SqL.of hld, hat, aL, _, rfl, haL.1, by omega, fun b H2 s2 nb hb => ?_⟩
    have hld2 := s2 _ _ hld
    have nbl : b ≠ ld := (ne_of_none hld nb).symm
    refine ⟨ld, _, _, rfl, rfl, hld2, szl (by rw [List.length_map]; omega), b, ⟨_, _, _, _, _, rfl⟩, Same.upd_new (s1.trans s2) nld, ?_, fun k d hd => ?_, ?_, nbl⟩
    · rw [upd_same, List.map_append (l₁ := as0 ++ [aL])]
      rfl
    · obtain ⟨g1, g2⟩ := has k d hd
      refine ⟨?_, g2⟩
      show (upd H2 ld _) d = _
      rw [upd_ne g2]
      exact s2 _ _ g1
    · show (upd H2 ld _) b = _
      rw [upd_ne nbl]
      exact hb
  have c2 : (difk n p).length ≤ 1 := by
    have : ¬ (1 : Int) < ((difk n p).length : Int) := fun z => c (decide_eq_true z)
    omega
  -- the starts
  refine ⟨_, rfl, (by show 1 ≤ sizeLine; decide), fun st nst => ?_⟩
  have sst := same_new (o := .lst [.int lo]) nst
  refine ⟨_, rfl, ld, _, rfl, SqL.of (sst _ _ hld), ?_⟩
  have nstH := s1.free nst
  refine for_it (walk_rev (xs := (as0 ++ [aL]).map V.ref)) (fun i σ H' => ∃ (st : Addr) (ss : List Int), (∃ x5 x6 x7 x8, σ = [some (.ref a), some (.int lo), some (.int hi), some (.ref ld), some (.ref st), x5, x6, x7, x8]) ∧ Same H1 H' ∧ LAt H' st ss ∧ ss.length ≤ 3 ^ i ∧ (i ≤ n → SegsP (fun x y => MonoS (ev (difk (n - i) p)) x y ∧ ∀ k, n - i < k → Keeps (ev (difk k p)) x y) lo hi ss) ∧ (i = n + 1 → SegsP (AllK p) lo hi ss))
    ⟨st, [lo], ⟨_, _, _, _, rfl⟩, sst, upd_same, Nat.le_refl _, fun _ => SegsP.one hle ⟨const_mono (ev_const c2) lo hi, fun k hk => keeps_const (ev_const (difk_short c2 k (by omega))) lo hi⟩, fun z => by omega⟩ (fun i σ H' _ hP => by
      obtain ⟨_, _, _, s', _⟩ := hP
      exact SqL.of (s' _ _ hld)) (fun i v σ H2 H2' hi2 hP hY => ?_) (fun σ H2 hP => ?_)
  · obtain ⟨st, ss, ⟨x5, x6, x7, x8, rfl⟩, s2, hst, lss, hseg, _⟩ := hP
    obtain ⟨rfl, hv⟩ := hY
    rw [List.length_map, las] at hi2 hv
    have hin : i ≤ n := by omega
    obtain ⟨rg, hrg⟩ : ∃ rg, (as0 ++ [aL])[n - i]? = some rg := ⟨_, List.getElem?_eq_getElem (by rw [las]; omega)⟩
    have hv2 : v = .ref rg := by
      rw [show n + 1 - 1 - i = n - i by omega, List.getElem?_map, hrg] at hv
      exact (Option.some.inj hv).symm
    subst hv2
    have hR := has (n - i) rg hrg
    replace hseg := hseg hin
    have p3 : 3 ^ i ≤ 3 ^ 9 := Nat.pow_le_pow_right (by decide) (by omega)
    have e39 : (3 : Nat) ^ 9 = 19683 := by decide
    have ssn : ss ≠ [] := fun z => by
      rw [z] at hseg
      exact hseg.elim
    refine ⟨Nat.zero_le _, fun fi nfi => ?_⟩
    have sfi := same_new (o := .lst []) nfi
    refine ⟨_, rfl, _, rfl, _, rfl, st, ss, hi, rfl, sfi _ _ hst, ssn, by omega, fun en H3 s3 nen hen => ?_⟩
    have lE := endsL_len (hi := hi) ssn
    have s23 := (s2.trans sfi).trans s3
    refine ⟨st, en, _, _, rfl, .inl ⟨SqL.of (s3 _ _ (sfi _ _ hst)), SqL.of hen, ?_⟩⟩
    refine for_it (walk_zip (K := K) (xs := ss.map V.int) (ys := (endsL ss hi).map V.int) (n := ss.length) (by rw [List.length_map, List.length_map, lE, Nat.min_self])) (fun j σ H' => (∃ x7 x8, σ = [some (.ref a), some (.int lo), some (.int hi), some (.ref ld), some (.ref st), some (.ref rg), some (.ref fi), x7, x8]) ∧ Same H1 H' ∧ (∀ b u, H3 b = some u → b ≠ fi → H' b = some u) ∧ ∃ fs : List Int, LAt H' fi fs ∧ fs.length ≤ 3 * j ∧ (j = 0 → fs = []) ∧ ∀ s' e', 0 < j → ss[j - 1]? = some s' → (endsL ss hi)[j - 1]? = some e' → SegsP (fun x y => ∀ k, n - i ≤ k → Keeps (ev (difk k p)) x y) lo e' fs)
      ⟨⟨_, _, rfl⟩, s23, (fun b u e _ => e), [], s3 _ _ upd_same, Nat.zero_le _, fun _ => rfl, fun s' e' z => by omega⟩ (fun j σ H' _ hP => ?_) (fun j v σ H4 H4' hj hP hY => ?_) (fun σ H4 hP => ?_)
    · obtain ⟨_, s4, k4, _⟩ := hP
      have nsf : st ≠ fi := ne_of_none hst nfi
      have nef : en ≠ fi := (ne_of_none (upd_same : (upd H2' fi (.lst [])) fi = _) nen).symm
      exact ⟨SqL.of (k4 _ _ (s3 _ _ (sfi _ _ hst)) nsf), SqL.of (k4 _ _ hen nef)⟩
    · obtain ⟨⟨y7, y8, rfl⟩, s4, k4, fs, hfi, lfs, f0, fseg⟩ := hP
      obtain ⟨Tn, x1, x2, rfl, nT, rfl, g1, g2⟩ := hY
      obtain ⟨s', hs'⟩ : ∃ s', ss[j]? = some s' := ⟨_, List.getElem?_eq_getElem hj⟩
      obtain ⟨e', he'⟩ : ∃ e', (endsL ss hi)[j]? = some e' := ⟨_, List.getElem?_eq_getElem (by omega)⟩
      have g1' : (ss.map V.int)[j]? = some x1 := g1
      have g2' : ((endsL ss hi).map V.int)[j]? = some x2 := g2
      rw [mapI_get hs'] at g1'
      rw [mapI_get he'] at g2'
      cases g1'
      cases g2'
      obtain ⟨t1, t2, t3, t4, t5, t6, t7⟩ := hseg.get hs' he'
      have sT : Same H4 (upd H4 Tn (.tup [.int s', .int e'])) := same_new nT
      have hRr := sT _ _ (s4 _ _ hR.1)
      refine ⟨Tn, _, rfl, SqT.of upd_same, rfl, _, _, rfl, _, _, rfl, rfl, ?_⟩
      refine ⟨_, rfl, .inl ⟨rfl, _, SqL.of (sT _ _ hfi)⟩, _, rfl, _, rfl, _, rfl, rg, _, s', e', rfl, hRr, t2, (hp (n - i)).sub t3 (by omega) (by omega) t4, t1.1, fun b fs' H5 s5 nb hb hk0 l3 => ?_⟩
      have hk : SegsP (fun x y => ∀ k, n - i ≤ k → Keeps (ev (difk k p)) x y) s' e' fs' := hk0.impI fun x y h1 h2 h3 h k hk' => by
        by_cases ek : k = n - i
        · rw [ek]
          exact h
        · exact (t1.2 k (by omega)).sub h1 h2 h3
      have hfi5 := s5 _ _ (sT _ _ hfi)
      have nbf : b ≠ fi := (ne_of_none (sT _ _ hfi) nb).symm
      have p3j : 3 * j + 3 ≤ 60000 := by omega
      refine ⟨fi, b, _, _, rfl, rfl, hfi5, hb, sz (by rw [List.length_map, List.length_map]; omega), ?_⟩
      have nfiH : H1 fi = none := s2.free nfi
      have s15 : Same H1 H5 := (s4.trans sT).trans s5
      refine ⟨⟨_, _, rfl⟩, Same.upd_new s15 nfiH, fun c u e nc => ?_, fs ++ fs', ?_, by rw [List.length_append]; omega, fun z => by omega, fun s'' e'' _ q1 q2 => ?_⟩
      · rw [upd_ne nc]
        exact s5 _ _ (sT _ _ (k4 c u e nc))
      · show (upd H5 fi _) fi = some (HO.lst _)
        rw [upd_same, List.map_append]
      · rw [show j + 1 - 1 = j by omega] at q1 q2
        rw [he'] at q2
        cases q2
        by_cases j0 : j = 0
        · rw [f0 j0, List.nil_append]
          have := t5 j0
          rw [this] at hk
          exact hk
        · obtain ⟨s0, hs0⟩ : ∃ s', ss[j - 1]? = some s' := ⟨_, List.getElem?_eq_getElem (by omega)⟩
          obtain ⟨e0, he0⟩ : ∃ e', (endsL ss hi)[j - 1]? = some e' := ⟨_, List.getElem?_eq_getElem (by omega)⟩
          obtain ⟨_, _, _, _, _, _, u7⟩ := hseg.get hs0 he0
          have eq0 := u7 s' (by rw [show j - 1 + 1 = j by omega]; exact hs')
          refine SegsP.app (fseg s0 e0 (by omega) hs0 he0) ?_
          rw [eq0]
          exact hk
    · obtain ⟨⟨y7, y8, rfl⟩, s4, k4, fs, hfi, lfs, f0, fseg⟩ := hP
      have lpos : 0 < ss.length := List.length_pos_iff.mpr ssn
      obtain ⟨s0, hs0⟩ : ∃ s', ss[ss.length - 1]? = some s' := ⟨_, List.getElem?_eq_getElem (by omega)⟩
      obtain ⟨e0, he0⟩ : ∃ e', (endsL ss hi)[ss.length - 1]? = some e' := ⟨_, List.getElem?_eq_getElem (by omega)⟩
      obtain ⟨_, _, _, _, _, u6, _⟩ := hseg.get hs0 he0
      have eh := u6 (by omega)
      have full := fseg s0 e0 lpos hs0 he0
      rw [eh] at full
      refine ⟨_, rfl, fi, fs, ⟨_, _, _, _, rfl⟩, s4, hfi, ?_, fun hn => ?_, fun hn => ?_⟩
      · rw [Nat.pow_succ]
        omega
      · obtain ⟨k, hk⟩ : ∃ k, n - i = k + 1 := ⟨n - i - 1, by omega⟩
        rw [show n - (i + 1) = k by omega]
        rw [hk] at full
        exact full.imp fun x y h => ⟨keeps_mono (fun z => (congrFun (difk_ev p k) z).symm) (h (k + 1) (Nat.le_refl _)), fun k' hk' => h k' (by omega)⟩
      · exact full.imp fun x y h k => h k (by omega)
  · obtain ⟨st, ss, ⟨x5, x6, x7, x8, rfl⟩, s2, hst, lss, _, hseg⟩ := hP
    rw [List.length_map, las] at hseg lss
    replace hseg := hseg rfl
    have p3 : 3 ^ (n + 1) ≤ 3 ^ 10 := Nat.pow_le_pow_right (by decide) (by omega)
    have e310 : (3 : Nat) ^ 10 = 59049 := by decide
    have ssn : ss ≠ [] := fun z => by
      rw [z] at hseg
      exact hseg.elim
    refine ⟨_, rfl, _, rfl, _, rfl, st, ss, hi, rfl, hst, ssn, by omega, fun en H3 s3 nen hen => ?_⟩
    have lE := endsL_len (hi := hi) ssn
    refine ⟨st, en, _, _, rfl, .inl ⟨SqL.of (s3 _ _ hst), SqL.of hen, fun D nD => ?_⟩⟩
    have s03 := (s1.trans s2).trans s3
    have nDH := s03.free nD
    refine lc_it (walk_zip (K := K) (xs := ss.map V.int) (ys := (endsL ss hi).map V.int) (n := ss.length) (by rw [List.length_map, List.length_map, lE, Nat.min_self])) (fun i H' => Same H3 H' ∧ ∃ us : List V, H' D = some (.lst us) ∧ us.length = i ∧ ∀ (j : Nat) (u : V) (s e : Int), us[j]? = some u → ss[j]? = some s → (endsL ss hi)[j]? = some e → ∃ t, u = .ref t ∧ H' t = some (.tup [.int s, .int e, .int (sgX (ev p s))]) ∧ t ≠ D)
      ⟨same_new nD, [], upd_same, rfl, fun j u s e z => by cases z⟩ (fun i H' _ hP => ⟨SqL.of (hP.1 _ _ (s3 _ _ hst)), SqL.of (hP.1 _ _ hen)⟩) (fun i x H' H'' hlt hP hY => ?_) (fun H' hP => ?_)
    · obtain ⟨s4, us, hD, lus, hus⟩ := hP
      obtain ⟨Tn, x1, x2, rfl, nT, rfl, g1, g2⟩ := hY
      obtain ⟨s', hs'⟩ : ∃ s', ss[i]? = some s' := ⟨_, List.getElem?_eq_getElem hlt⟩
      obtain ⟨e', he'⟩ : ∃ e', (endsL ss hi)[i]? = some e' := ⟨_, List.getElem?_eq_getElem (by omega)⟩
      have g1' : (ss.map V.int)[i]? = some x1 := g1
      have g2' : ((endsL ss hi).map V.int)[i]? = some x2 := g2
      rw [mapI_get hs'] at g1'
      rw [mapI_get he'] at g2'
      cases g1'
      cases g2'
      obtain ⟨t1, t2, t3, t4, _⟩ := hseg.get hs' he'
      have sT : Same H' (upd H' Tn (.tup [.int s', .int e'])) := same_new nT
      refine ⟨Tn, _, rfl, SqT.of upd_same, rfl, _, _, rfl, _, _, rfl, rfl, rfl, yes_go ?_⟩
      refine ⟨_, rfl, _, rfl, _, rfl, _, rfl, a, p, s', rfl, sT _ _ (s4 _ _ (s03 _ _ ha)), (hp 0).at t3 (by omega), (by show 3 ≤ sizeLine; decide), fun t nt => ?_⟩
      have st2 := same_new (o := .tup [.int s', .int e', .int (sgX (ev p s'))]) nt
      have ntD : t ≠ D := (ne_of_none (sT _ _ hD) nt).symm
      refine ⟨us, st2 _ _ (sT _ _ hD), szl (by omega), Same.upd_new ((s4.trans sT).trans st2) nD, us ++ [.ref t], upd_same, by rw [List.length_append, lus]; rfl, fun j u s e hu hs he => ?_⟩
      by_cases hj : j < us.length
      · rw [List.getElem?_append_left hj] at hu
        obtain ⟨t', e1, e2, e3⟩ := hus j u s e hu hs he
        refine ⟨t', e1, ?_, e3⟩
        rw [upd_ne e3]
        exact st2 _ _ (sT _ _ e2)
      · rw [List.getElem?_append_right (by omega)] at hu
        have hj2 : j = us.length := by
          have := (List.getElem?_eq_some_iff.mp hu).1
          have : j - us.length < 1 := this
          omega
        subst hj2
        rw [Nat.sub_self] at hu
        cases hu
        rw [lus] at hs he
        rw [hs'] at hs
        rw [he'] at he
        cases hs
        cases he
        refine ⟨t, rfl, ?_, ntD⟩
        rw [upd_ne ntD]
        exact upd_same
    · obtain ⟨s4, us, hD, lus, hus⟩ := hP
      refine q D us ss H' (s03.trans s4) nDH hD (.inr ⟨hle, hseg, ⟨lus, fun i u s e hu hs he => ?_⟩, by omega, Nat.le_trans lss (Nat.pow_le_pow_right (by decide) (by omega))⟩)
      obtain ⟨t, e1, e2, _⟩ := hus i u s e hu hs he
      exact ⟨t, e1, e2⟩
end
end K18

set_option Elab.async false
set_option linter.all false
set_option maxRecDepth 100000
set_option maxHeartbeats 4000000
namespace K18
open PySem PySem.Spec PyProof.Rows L2 OG
open C8 (pss_cut pe_gc)
open OGX

section
variable {P : Program} {w : World} {K : PySem.W.Frag} {mg : Str → Option Value} {base : Heap}
theorem ok_put_in (T : Tops K mg) : FnOk P w K mg base CX0 2 T.fput_in T.dput_in ["powers", "figures"] spPutInF := by
  have Gvalue : FnOk P w K mg base CX0 1 T.fvalue T.dvalue ["polynomial", "number"] spVal := ok_val T
  have Gtrimmed : FnOk P w K mg base CX0 1 T.ftrimmed T.dtrimmed ["parts"] spTrim := ok_trim T
  refine T.Fput_in.ok (k := 1) scput_in (fun vs H Q E h => ?_) (fun cdv A outer s H vs Q E hr h => ?_)
  · obtain ⟨l, pw, L, B, W, rfl, _⟩ := h
    rfl
  obtain ⟨l, pw, L, B, W, rfl, ⟨us, hl, lus, hus⟩, hok, hW, hlen, hP', hB, q⟩ := h
  refine ⟨_, (pss_cons (ps_if (pt_not (pt_truth (pv 0) (by intro _; rfl)))
  (pss_one (ps_ret (pe_lst pa_nil)))
  pss_nil)
 (pss_cons (ps_set (i := 2) scput_in.nd rfl (Or.inl rfl) (pe_op op_rep (pe_lst (pa_cons pe_int pa_nil)) (pe_op op_add (pe_ix ix_tup (pe_ix ix_list (pv 0) pe_int (fun _ _ => rfl)) pe_int (fun _ _ => rfl)) pe_int)))
 (pss_cons (ps_for PassesOwn.never rfl (pi_list (pv 0)) (pg_tup rfl (pgs_cons (pg_name (i := 3) scput_in.nd rfl (Or.inl rfl)) (pgs_cons (pg_name (i := 4) scput_in.nd rfl (Or.inl rfl)) pgs_nil)))
  (pss_one (ps_asg (pe_call Gvalue (hr.mono (by omega)) (by rfl) T.gvalue T.Fvalue.kp T.bvalue .nil pass0 (pa_cons (pv 4) (pa_cons (pv 1) pa_nil))) (pg_sub (pv 2) (pv 3) set_list))))
 (pss_one (ps_ret (pe_call Gtrimmed (hr.mono (by omega)) (by rfl) T.gtrimmed T.Ftrimmed.kp T.btrimmed .nil pass0 (pa_cons (pv 2) pa_nil))))))), ?_⟩
  refine ⟨_, rfl, _, .inl ⟨us, SqL.of hl, rfl⟩, ?_⟩
  cases us with
  | nil =>
    have e : pw = [] := List.eq_nil_of_length_eq_zero lus.symm
    subst e
    refine iteT ⟨Nat.zero_le _, fun b nb => ?_⟩
    exact q b [] _ (same_new nb) nb upd_same (fun _ => rfl) (Nat.zero_le _) (fun c hc => by cases hc) rfl
  | cons u0 ur =>
    obtain ⟨p0, pr, rfl⟩ : ∃ p0 pr, pw = p0 :: pr := by
      cases pw with
      | nil => cases lus
      | cons p0 pr => exact ⟨p0, pr, rfl⟩
    refine iteF ?_
    obtain ⟨t0, b0, rfl, ht0, hb0⟩ := hus 0 u0 p0 rfl rfl
    have p9 := hok.low p0 List.mem_cons_self
    refine ⟨(by show 1 ≤ sizeLine; decide), fun z nz => ?_⟩
    have s0 := same_new (o := .lst [.int 0]) nz
    refine ⟨_, rfl, l, _, 0, _, rfl, rfl, SqL.of (s0 _ _ hl), atI_nat (j := 0) rfl, t0, _, 0, _, rfl, rfl, SqT.of (s0 _ _ ht0), rfl, _, 1, rfl, rfl, z, _, [.int 0], rfl, rfl, upd_same, by omega, by omega, ?_, fun pt npt => ?_⟩
    · show 1 * ((p0.1 : Int) + 1).toNat ≤ sizeLine
      exact sz (by omega)
    have e1 : ((p0.1 : Int) + 1).toNat = p0.1 + 1 := by omega
    rw [e1, List.flatten_replicate_singleton]
    have sA := s0.trans (same_new (o := .lst (List.replicate (p0.1 + 1) (V.int 0))) npt)
    have nptH : H pt = none := s0.free npt
    have er : List.replicate (p0.1 + 1) (V.int 0) = (List.replicate (p0.1 + 1) (0 : Int)).map V.int := by rw [List.map_replicate]
    rw [er]
    rw [er] at sA
    have hle : ∀ (i : Nat) (p : Nat × List Int), (p0 :: pr)[i]? = some p → p.1 ≤ p0.1 := fun i p hp => by
      cases i with
      | zero => cases hp; exact Nat.le_refl _
      | succ i =>
        have := (List.pairwise_cons.mp hok.falls).1 p (List.mem_of_getElem? hp)
        omega
    refine ⟨_, rfl, l, rfl, ⟨_, SqL.of (sA _ _ hl)⟩, ?_⟩
    refine for_list (xs := .ref t0 :: ur) (fun i σ H' => (∃ x3 x4, σ = [some (.ref l), some (.int L), some (.ref pt), x3, x4]) ∧ Same H H' ∧ ∃ q : List Int, LAt H' pt q ∧ q.length = p0.1 + 1 ∧ Cf B q ∧ (∀ n, ev q n = pwEv ((p0 :: pr).take i) L n) ∧ ∀ k, k < p0.1 + 1 → (∀ (j : Nat) (p : Nat × List Int), j < i → (p0 :: pr)[j]? = some p → p.1 ≠ k) → q[k]? = some 0)
      ⟨⟨_, _, rfl⟩, sA, List.replicate (p0.1 + 1) 0, upd_same, List.length_replicate, (fun c hc => by rw [List.eq_of_mem_replicate hc]; exact Nat.pow_pos (by decide)), (fun n => by rw [ev_noughts]; rfl), fun k hk _ => by rw [List.getElem?_replicate, if_pos hk]⟩ (fun i σ H' _ hP => SqL.of (hP.2.1 _ _ hl)) (fun i x σ H2 hx hP => ?_) (fun σ H2 hP => ?_)
    · obtain ⟨⟨x3, x4, rfl⟩, s2, q', hpt, lq, cq, hev, hz⟩ := hP
      obtain ⟨p, hp⟩ : ∃ p, (p0 :: pr)[i]? = some p := ⟨_, List.getElem?_eq_getElem (by rw [← lus]; exact (List.getElem?_eq_some_iff.mp hx).1)⟩
      obtain ⟨t, bb, rfl, ht, hbb⟩ := hus i x p hx hp
      have hpm := List.mem_of_getElem? hp
      have hpl := hle i p hp
      have hq0 : q'[p.1]? = some 0 := hz p.1 (by omega) fun j p' hj hp' => by
        have pw := List.pairwise_iff_getElem.mp hok.falls j i (by have := (List.getElem?_eq_some_iff.mp hp').1; omega) (by have := (List.getElem?_eq_some_iff.mp hp).1; omega) hj
        rw [(List.getElem?_eq_some_iff.mp hp').2, (List.getElem?_eq_some_iff.mp hp).2] at pw
        omega
      refine ⟨t, _, rfl, SqT.of (s2 _ _ ht), rfl, _, _, rfl, _, _, rfl, rfl, ?_⟩
      refine ⟨_, rfl, _, rfl, bb, _, L, rfl, s2 _ _ hbb, hP' p hpm, ?_⟩
      refine ⟨_, rfl, _, rfl, pt, _, _, p.1, rfl, rfl, hpt, ?_, ?_⟩
      · unfold ixN
        rw [List.length_map, lq, if_pos (by omega), if_pos (by omega)]
        rfl
      refine ⟨⟨_, _, rfl⟩, Same.upd_new s2 nptH, q'.set p.1 (ev p.2 L), ?_, by rw [List.length_set]; exact lq, fun c hc => ?_, fun n => ?_, fun k hk hne => ?_⟩
      · show (upd H2 pt _) pt = some (HO.lst _)
        rw [upd_same, List.map_set]
      · rcases List.mem_or_eq_of_mem_set hc with h | h
        · exact cq c h
        · rw [h]
          exact hB p hpm
      · rw [ev_set n hq0, hev n, pwEv_take L n hp]
      · have hkp : p.1 ≠ k := hne i p (by omega) hp
        rw [List.getElem?_set_ne hkp]
        exact hz k hk fun j p' hj hp' => hne j p' (by omega) hp'
    · obtain ⟨⟨x3, x4, rfl⟩, s2, q', hpt, lq, cq, hev, _⟩ := hP
      rw [lus, List.take_length] at hev
      refine ⟨_, rfl, pt, q', rfl, hpt, by omega, fun b H3 s3 nb hb => ?_⟩
      refine q b (trim q') H3 (s2.trans s3) (s2.free nb) hb (fun n => by rw [trim_ev]; exact hev n) ?_ (fun c hc => cq c (trim_mem hc)) (trim_trim _)
      have := trim_len q'
      omega
end
end K18

set_option Elab.async false
set_option linter.all false
set_option maxRecDepth 100000
set_option maxHeartbeats 4000000
namespace K18
open PySem PySem.Spec PyProof.Rows L2 OG
open C8 (pss_cut pe_gc)
open OGX

section
variable {P : Program} {w : World} {K : PySem.W.Frag} {mg : Str → Option Value} {base : Heap}
theorem ok_row_end (T : Tops K mg) : FnOk P w K mg base CX0 1 T.frow_end T.drow_end ["rows", "place"] spRowEnd := by
  refine T.Frow_end.ok (k := 0) scrow_end (fun vs H Q E h => ?_) (fun cdv A outer s H vs Q E hr h => ?_)
  · obtain ⟨S, sts, i, rfl, _⟩ := h
    rfl
  obtain ⟨S, sts, i, rfl, ⟨us, hS, lus, hus⟩, hi, q⟩ := h
  refine ⟨_, (pss_one (ps_ret (pe_ifExp (pt_cmpR op_eq (pe_op op_add (pv 1) pe_int) (pe_callB call_len_seq (by rfl) T.mlen PySem.boot_len (pa_cons (pv 0) pa_nil)) (nomark _)) pe_non (pe_op op_sub (pe_ix ix_tup (pe_ix ix_list (pv 0) (pe_op op_add (pv 1) pe_int) (fun _ _ => rfl)) pe_int (fun _ _ => rfl)) pe_int)))), ?_⟩
  refine ⟨_, rfl, _, 1, rfl, rfl, _, rfl, S, _, rfl, .inl (SqL.of hS), rfl, _, rfl, ite2 (fun c => ?_) (fun c => ?_)⟩
  · have c2 : ((i : Int) + 1) = (us.length : Int) := V.int.inj (of_decide_eq_true c)
    exact q .non (.inl ⟨by omega, rfl⟩)
  · have c2 : ¬ ((i : Int) + 1) = (us.length : Int) := fun z => c (decide_eq_true (congrArg V.int z))
    obtain ⟨u, hu⟩ : ∃ u, us[i + 1]? = some u := ⟨_, List.getElem?_eq_getElem (by omega)⟩
    obtain ⟨st, hst⟩ : ∃ st, sts[i + 1]? = some st := ⟨_, List.getElem?_eq_getElem (by omega)⟩
    obtain ⟨t, l, rfl, ht, _⟩ := hus (i + 1) u st hu hst
    refine ⟨_, rfl, _, rfl, _, 1, rfl, rfl, S, _, _, _, rfl, rfl, SqL.of hS, atI_nat (j := i + 1) hu, t, _, 0, _, rfl, rfl, SqT.of ht, rfl, _, 1, rfl, rfl, ?_⟩
    exact q _ (.inr ⟨st, hst, rfl⟩)
theorem ok_cells (T : Tops K mg) : FnOk P w K mg base CX0 1 T.fcells T.dcells ["low", "high"] spCellsF := by
  refine T.Fcells.ok (k := 0) sccells (fun vs H Q E h => ?_) (fun cdv A outer s H vs Q E hr h => ?_)
  · obtain ⟨lo, hi, C, rfl, _⟩ := h
    rfl
  obtain ⟨lo, hi, C, rfl, h0, hh, hC, q⟩ := h
  refine ⟨_, (pss_cons (ps_set (i := 2) sccells.nd rfl (Or.inl rfl) (pe_lst pa_nil))
 (pss_cons (ps_while PassesOwn.never (pt_cmpR op_le (pv 0) (pv 1) (nomark _))
  (pss_cons (ps_set (i := 3) sccells.nd rfl (Or.inl rfl) (pe_bits (pv 0)))
 (pss_cons (ps_set (i := 4) sccells.nd rfl (Or.inl rfl) (pe_callB (call_min2 rfl) (by rfl) T.mmin (by decide +kernel) (pa_cons (pv 1) (pa_cons (pe_op op_sub (pe_op op_oneShl pe_int (pv 3)) pe_int) pa_nil))))
 (pss_cons (ps_expr (pe_bm PySem.F.plainAttrs_list PySem.F.slot_list_append PySem.F.type_list_append mt_append (pv 2) (pa_cons (pe_tup (pa_cons (pv 3) (pa_cons (pv 0) (pa_cons (pv 4) pa_nil)))) pa_nil)))
 (pss_one (ps_set (i := 0) sccells.nd rfl (Or.inl rfl) (pe_op op_add (pv 4) pe_int)))))))
 (pss_one (ps_ret (pv 2))))), ?_⟩
  have pC : (0 : Int) < 2 ^ C := Int.pow_pos (by decide)
  refine ⟨Nat.zero_le _, fun b nb => ?_⟩
  have sb := same_new (o := .lst []) nb
  refine ⟨fun m σ H' => ∃ (cur : Int) (us : List V) (cs : List Cell) (x3 x4 : Option V), m = (hi + 1 - cur).toNat ∧ σ = [some (.int cur), some (.int hi), some (.ref b), x3, x4] ∧ Same H H' ∧ H' b = some (.lst us) ∧ us.length = cs.length ∧ lo ≤ cur ∧ (lo ≤ hi → cur ≤ hi + 1) ∧ (hi < lo → cur = lo ∧ cs = []) ∧ cs.length + figs lo ≤ figs cur + 1 ∧ (cur ≤ hi → cs.length + figs lo ≤ figs cur) ∧ (hi < cur → lo ≤ hi → cs.length + figs lo ≤ figs hi + 1) ∧ (∀ (i : Nat) (u : V) (c : Cell), us[i]? = some u → cs[i]? = some c → CellAt H' u c ∧ u ≠ .ref b) ∧ CellsU lo cur cs,
    ⟨_, lo, [], [], none, none, rfl, rfl, sb, upd_same, rfl, Int.le_refl _, fun _ => by omega, fun _ => ⟨rfl, rfl⟩, by show 0 + figs lo ≤ figs lo + 1; omega, (fun _ => by show 0 + figs lo ≤ figs lo; omega), (fun z1 z2 => by omega), (fun i u c z => by cases z), CellsU.nil lo⟩, ?_⟩
  rintro m σ H' ⟨cur, us, cs, x3, x4, hm, rfl, s2, hb, lus, hlo, hc1, hc2, hcn, hcn2, hcn3, hus, hU⟩
  refine ⟨_, rfl, _, rfl, cur, hi, rfl, rfl, _, rfl, ite2 (fun c => ?_) (fun c => ?_)⟩
  · have hle : cur ≤ hi := of_decide_eq_true c
    have cn := hcn2 hle
    have f60 : figs cur ≤ C := figs_le_of (by omega) (by omega)
    have pp : (0 : Int) < 2 ^ figs cur := Int.pow_pos (by decide)
    have fl := figs_lt (n := cur) (by omega)
    refine ⟨fun σ' H2 => ∃ (z : Int) (us2 : List V) (x3 x4 : Option V), cur ≤ z ∧ z ≤ hi ∧ (z + 1 = 2 ^ figs cur ∨ z = hi) ∧ z < 2 ^ figs cur ∧ σ' = [some (.int (z + 1)), some (.int hi), some (.ref b), x3, x4] ∧ Same H H2 ∧ H2 b = some (.lst us2) ∧ us2.length = cs.length + 1 ∧ (∀ (i : Nat) (u : V) (c : Cell), us2[i]? = some u → (cs ++ [⟨figs cur, cur, z⟩])[i]? = some c → CellAt H2 u c ∧ u ≠ .ref b), fun σ' H2 ⟨z, us2, y3, y4, g1, g2, g3, g8, g4, g5, g6, g7, g9⟩ => ⟨(hi + 1 - (z + 1)).toNat, by omega, z + 1, us2, cs ++ [⟨figs cur, cur, z⟩], y3, y4, rfl, g4, g5, g6, by rw [g7, List.length_append]; rfl, by omega, fun _ => by omega, fun _ => by omega, ?_, fun hz => ?_, fun hz1 hz2 => ?_, g9, hU.snoc (c := ⟨figs cur, cur, z⟩) rfl g1 (fun n n1 n2 => ?_)⟩, ?_⟩
    · rw [List.length_append]
      have := figs_mono (a := cur) (n := z + 1) (by omega) (by omega)
      show cs.length + 1 + figs lo ≤ _
      omega
    · rw [List.length_append]
      rcases g3 with g3 | g3
      · have := figs_iff (n := z + 1) (by omega) (figs cur) (by omega) (by rw [g3, Int.pow_succ]; omega)
        show cs.length + 1 + figs lo ≤ _
        omega
      · omega
    · rw [List.length_append]
      have := figs_mono (a := cur) (n := hi) (by omega) hle
      show cs.length + 1 + figs lo ≤ _
      omega
    · have := figs_cell (lo := cur) (n := n) (by omega) n1 (by show n < _; have n2' : n ≤ z := n2; omega)
      show ((figs n : Nat) : Int) = ((figs cur : Nat) : Int)
      rw [this]
    refine ⟨_, rfl, _, rfl, ?_⟩
    refine ⟨_, rfl, _, rfl, figs cur, rfl, rfl, by omega, _, 1, rfl, rfl, _, _, rfl, ?_⟩
    generalize hZ : (if 2 ^ figs cur - 1 < hi then 2 ^ figs cur - 1 else hi) = z
    have z1 : cur ≤ z ∧ z ≤ hi ∧ (z + 1 = 2 ^ figs cur ∨ z = hi) ∧ z < 2 ^ figs cur := by
      rw [← hZ]
      split <;> omega
    refine ⟨_, rfl, .inl ⟨rfl, _, SqL.of hb⟩, _, rfl, _, rfl, _, rfl, (by show 3 ≤ sizeLine; decide), fun t nt => ?_⟩
    have st := same_new (o := .tup [.int (figs cur : Int), .int cur, .int z]) nt
    have ntb : t ≠ b := (ne_of_none hb nt).symm
    refine ⟨b, us, _, rfl, rfl, st _ _ hb, szl (by omega), ?_⟩
    refine ⟨_, rfl, _, 1, rfl, rfl, z, us ++ [.ref t], _, _, z1.1, z1.2.1, z1.2.2.1, z1.2.2.2, rfl, Same.upd_new (s2.trans st) nb, upd_same, by rw [List.length_append, lus]; rfl, fun i u c hu hc => ?_⟩
    by_cases hi' : i < us.length
    · rw [List.getElem?_append_left hi'] at hu
      rw [List.getElem?_append_left (by omega)] at hc
      obtain ⟨⟨t', e1, e2⟩, e3⟩ := hus i u c hu hc
      refine ⟨⟨t', e1, ?_⟩, e3⟩
      rw [upd_ne (fun z => e3 (by rw [e1, z]))]
      exact st _ _ e2
    · rw [List.getElem?_append_right (by omega)] at hu
      rw [List.getElem?_append_right (by omega)] at hc
      have hi2 : i = us.length := by
        have := (List.getElem?_eq_some_iff.mp hu).1
        have : i - us.length < 1 := this
        omega
      rw [hi2, Nat.sub_self] at hu
      rw [hi2, lus, Nat.sub_self] at hc
      cases hu
      cases hc
      refine ⟨⟨t, rfl, ?_⟩, fun z => ntb (V.ref.inj z)⟩
      rw [upd_ne ntb]
      exact upd_same
  · have hgt : hi < cur := by
      have : ¬ cur ≤ hi := fun z => c (decide_eq_true z)
      omega
    refine ⟨_, rfl, q b us cs H' s2 nb hb lus (hcn3 hgt) (fun z => (hc2 z).2) (fun i u c hu hc => (hus i u c hu hc).1) ?_⟩
    rcases Int.lt_or_le hi lo with z | z
    · rw [(hc2 z).2]
      exact z
    · have := hc1 z
      exact hU.done (by omega)
end
end K18

set_option Elab.async false
set_option linter.all false
set_option maxRecDepth 100000
set_option maxHeartbeats 4000000
namespace K18
open PySem PySem.Spec PyProof.Rows L2 OG
open C8 (pss_cut pe_gc)
open OGX

section
variable {P : Program} {w : World} {K : PySem.W.Frag} {mg : Str → Option Value} {base : Heap}
theorem ok_fall (T : Tops K mg) : FnOk P w K mg base CX0 2 T.ffalling_cells T.dfalling_cells ["stretches", "high"] spFallF := by
  have Grow_end : FnOk P w K mg base CX0 1 T.frow_end T.drow_end ["rows", "place"] spRowEnd := ok_row_end T
  have Gcells : FnOk P w K mg base CX0 1 T.fcells T.dcells ["low", "high"] spCellsF := ok_cells T
  refine T.Ffalling_cells.ok (k := 1) scfalling_cells (fun vs H Q E h => ?_) (fun cdv A outer s H vs Q E hr h => ?_)
  · obtain ⟨S, sts, hi, C, rfl, _⟩ := h
    rfl
  obtain ⟨S, sts, hi, C, rfl, hSt, hok, hC, hC2, hi0, hhi, q⟩ := h
  refine ⟨_, (pss_cons (ps_set (i := 2) scfalling_cells.nd rfl (Or.inl rfl) (pe_lst pa_nil))
 (pss_cons (ps_for PassesOwn.never rfl (pi_enum (by rfl) T.menumerate (pa_cons (pv 0) pa_nil)) (pg_tup rfl (pgs_cons (pg_name (i := 3) scfalling_cells.nd rfl (Or.inl rfl)) (pgs_cons (pg_tup rfl (pgs_cons (pg_name (i := 5) scfalling_cells.nd rfl (Or.inl rfl)) (pgs_cons (pg_name (i := 6) scfalling_cells.nd rfl (Or.inl rfl)) pgs_nil))) pgs_nil)))
  (pss_cons (ps_set (i := 4) scfalling_cells.nd rfl (Or.inl rfl) (pe_call Grow_end (hr.mono (by omega)) (by rfl) T.grow_end T.Frow_end.kp T.brow_end .nil pass0 (pa_cons (pv 0) (pa_cons (pv 3) pa_nil))))
 (pss_one (ps_for PassesOwn.never rfl (pi_list (pe_call Gcells (hr.mono (by omega)) (by rfl) T.gcells T.Fcells.kp T.bcells .nil pass0 (pa_cons (pv 5) (pa_cons (pe_ifExp (pt_cmpR op_isN (pv 4) pe_non (nomark _)) (pv 1) (pv 4)) pa_nil)))) (pg_tup rfl (pgs_cons (pg_name (i := 7) scfalling_cells.nd rfl (Or.inl rfl)) (pgs_cons (pg_name (i := 8) scfalling_cells.nd rfl (Or.inl rfl)) (pgs_cons (pg_name (i := 9) scfalling_cells.nd rfl (Or.inl rfl)) pgs_nil))))
  (pss_one (ps_expr (pe_bm PySem.F.plainAttrs_list PySem.F.slot_list_append PySem.F.type_list_append mt_append (pv 2) (pa_cons (pe_tup (pa_cons (pv 7) (pa_cons (pv 8) (pa_cons (pv 9) (pa_cons (pv 6) pa_nil))))) pa_nil))))))))
 (pss_one (ps_ret (pe_revL (pv 2)))))), ?_⟩
  obtain ⟨us0, hS, lus0, hus0⟩ := id hSt
  refine ⟨Nat.zero_le _, fun b nb => ?_⟩
  have sb := same_new (o := .lst []) nb
  have nSb : S ≠ b := ne_of_none hS nb
  have l16 := hok.short
  obtain ⟨st0, str, est⟩ : ∃ st0 str, sts = st0 :: str := by
    cases sts with
    | nil => have := hok.first; cases this
    | cons x r => exact ⟨x, r, rfl⟩
  have h00 : st0.1 = 0 := by
    have := hok.first
    rw [est] at this
    exact Option.some.inj this
  refine ⟨_, rfl, S, us0, rfl, SqL.of (sb _ _ hS), ?_⟩
  refine for_it (walk_enum (xs := us0)) (fun i σ H' => (∃ x3 x4 x5 x6 x7 x8 x9, σ = [some (.ref S), some (.int hi), some (.ref b), x3, x4, x5, x6, x7, x8, x9]) ∧ Same H H' ∧ ∃ (us : List V) (cs : List FCell), H' b = some (.lst us) ∧ us.length = cs.length ∧ ((∀ st, sts[i]? = some st → cs.length ≤ figs st.1 + i) ∧ (i = sts.length → cs.length ≤ C + 20)) ∧ (∀ (j : Nat) (u : V) (c : FCell), us[j]? = some u → cs[j]? = some c → Fc0 H S sts H' u c) ∧ (∀ st, sts[i]? = some st → FcU sts 0 st.1 cs) ∧ (i = sts.length → FcU sts 0 (hi + 1) cs))
    ⟨⟨_, _, _, _, _, _, _, rfl⟩, sb, [], [], upd_same, rfl, ⟨(fun _ _ => Nat.zero_le _), fun _ => Nat.zero_le _⟩, (fun j u c z => by cases z), (fun st hst => by
      rw [est] at hst
      cases hst
      rw [h00]
      exact FcU.nil sts 0), fun z => by rw [est] at z; cases z⟩ (fun i σ H' _ hP => SqL.of (hP.2.1 _ _ hS)) (fun i v σ H1 H1' hi1 hP hY => ?_) (fun σ H1 hP => ?_)
  · obtain ⟨⟨x3, x4, x5, x6, x7, x8, x9, rfl⟩, s1, us, cs, hb, lus, lcs, hus, hU, _⟩ := hP
    obtain ⟨Tn, y1, y2, rfl, nT, rfl, g1, g2⟩ := hY
    have g1' : some (V.int (i : Nat)) = some y1 := g1
    have g2' : us0[i]? = some y2 := g2
    cases g1'
    obtain ⟨st, hst⟩ : ∃ st, sts[i]? = some st := ⟨_, List.getElem?_eq_getElem (by omega)⟩
    obtain ⟨t, l, rfl, ht, hpw⟩ := hus0 i y2 st g2' hst
    have sT : Same H1 (upd H1 Tn (.tup [.int (i : Nat), .ref t])) := same_new nT
    have s1T := s1.trans sT
    have hstm := List.mem_of_getElem? hst
    refine ⟨Tn, _, rfl, SqT.of upd_same, rfl, _, _, rfl, _, _, rfl, ⟨t, _, rfl, SqT.of (s1T _ _ ht), rfl, _, _, rfl, _, _, rfl, rfl, rfl, ?_⟩⟩
    refine ⟨_, rfl, _, rfl, S, sts, i, rfl, hSt.same s1T, by omega, fun ve hve => ?_⟩
    have h0st : 0 ≤ st.1 := by
      cases i with
      | zero =>
        rw [est] at hst
        cases hst
        omega
      | succ i =>
        have hp := hok.rises
        rw [est] at hp hst
        have := (List.pairwise_cons.mp hp).1 st.1 (List.mem_map.mpr ⟨st, List.mem_of_getElem? hst, rfl⟩)
        have this2 : st0.1 < st.1 := this
        omega
    rcases hve with ⟨hlast, rfl⟩ | ⟨st', hst', rfl⟩
    · refine ⟨_, rfl, _, rfl, rfl, _, rfl, iteT ⟨_, rfl, ?_⟩⟩
      refine ⟨_, _, C, rfl, h0st, hC, hC2, fun cb cus ccs H3 s3 ncb hcb lcu lcc lcc0 hcu hcc => ?_⟩
      have lcs' := lcs.1 st hst
      have s13 := s1T.trans s3
      have hb3 := s3 _ _ (sT _ _ hb)
      have ncbb : cb ≠ b := (ne_of_none (sT _ _ hb) ncb).symm
      have cle : st.1 ≤ hi + 1 := hhi st hstm
      have pC : (0 : Int) < 2 ^ C := Int.pow_pos (by decide)
      have lenC : ccs.length ≤ C + 2 := by
        rcases Int.lt_or_le hi st.1 with z | z
        · rw [lcc0 z]
          exact Nat.zero_le _
        · have := lcc z
          have f2 : figs hi ≤ C := figs_le_of (by omega) hC
          omega
      refine ⟨cb, rfl, ⟨_, SqL.of hcb⟩, ?_⟩
      refine for_list (xs := cus) (fun j σ H' => (∃ x7 x8 x9, σ = [some (.ref S), some (.int hi), some (.ref b), some (.int (i : Nat)), some V.non, some (.int st.1), some (.ref l), x7, x8, x9]) ∧ Same H H' ∧ (∀ d u, H3 d = some u → d ≠ b → H' d = some u) ∧ ∃ (us : List V) (cs : List FCell) (cur : Int), H' b = some (.lst us) ∧ us.length = cs.length ∧ cs.length ≤ figs st.1 + i + j ∧ (∀ (j : Nat) (u : V) (c : FCell), us[j]? = some u → cs[j]? = some c → Fc0 H S sts H' u c) ∧ FcU sts 0 cur cs ∧ st.1 ≤ cur ∧ cur ≤ hi + 1 ∧ CellsP cur hi (ccs.drop j))
        ⟨⟨_, _, _, rfl⟩, s13, (fun d u e _ => e), us, cs, st.1, hb3, lus, lcs', (fun j u c h1 h2 => (hus j u c h1 h2).same (sT.trans s3)), hU st hst, Int.le_refl _, cle, hcc⟩ (fun j σ H' _ hP => SqL.of (hP.2.2.1 _ _ hcb ncbb)) (fun j x σ H4 hx hP => ?_) (fun σ H4 hP => ?_)
      · obtain ⟨⟨x7', x8', x9', rfl⟩, s4, k4, us4, cs4, cur, hb4, lus4, lcs4, hus4, hU4, c1, c2, hcP⟩ := hP
        obtain ⟨c, hc⟩ : ∃ c, ccs[j]? = some c := ⟨_, List.getElem?_eq_getElem (by have := (List.getElem?_eq_some_iff.mp hx).1; omega)⟩
        have hjl : j < ccs.length := (List.getElem?_eq_some_iff.mp hc).1
        have ed : ccs.drop j = c :: ccs.drop (j + 1) := by
          rw [List.drop_eq_getElem_cons hjl, (List.getElem?_eq_some_iff.mp hc).2]
        rw [ed] at hcP
        obtain ⟨d1, d2, d3, d4, d5⟩ := hcP
        obtain ⟨ct, rfl, hct⟩ := hcu j x c hx hc
        have nctb : ct ≠ b := fun z => by
          rw [z, hb3] at hct
          cases hct
        refine ⟨ct, _, rfl, SqT.of (k4 _ _ hct nctb), rfl, _, _, rfl, _, _, rfl, _, _, rfl, rfl, ?_⟩
        refine ⟨_, rfl, .inl ⟨rfl, _, SqL.of hb4⟩, _, rfl, _, rfl, _, rfl, _, rfl, (by show 4 ≤ sizeLine; decide), fun t2 nt2 => ?_⟩
        have st2 := same_new (o := .tup [.int c.L, .int c.a, .int c.z, .ref l]) nt2
        have nt2b : t2 ≠ b := (ne_of_none hb4 nt2).symm
        refine ⟨b, us4, _, rfl, rfl, st2 _ _ hb4, szl (by have fC : figs st.1 ≤ C + 1 := figs_le_of h0st (by rw [Int.pow_succ]; have := hhi st hstm; omega); have j1 := (List.getElem?_eq_some_iff.mp hc).1; have cl : ccs.length ≤ C + 2 := lenC; omega), ?_⟩
        refine ⟨⟨_, _, _, rfl⟩, Same.upd_new (s4.trans st2) nb, (fun d u e n => by rw [upd_ne n]; exact st2 _ _ (k4 d u e n)), us4 ++ [.ref t2], cs4 ++ [⟨c.L, c.a, c.z, st.2⟩], c.z + 1, upd_same, by rw [List.length_append, List.length_append, lus4]; rfl, by rw [List.length_append]; show cs4.length + 1 ≤ _; omega, fun j' u c' hu hc' => ?_, hU4.snoc (c := ⟨c.L, c.a, c.z, st.2⟩) d1 d2 (fun n n1 n2 => ⟨d4 n n1 n2, stPw_at hok.rises hst (by have n1' : c.a ≤ n := n1; omega) fun s'' hs'' => ?_⟩) ⟨st, hstm, rfl⟩, by omega, by omega, d5⟩
        · by_cases hj' : j' < us4.length
          · rw [List.getElem?_append_left hj'] at hu
            rw [List.getElem?_append_left (by omega)] at hc'
            obtain ⟨t', l', e1, e2, e3⟩ := hus4 j' u c' hu hc'
            refine ⟨t', l', e1, ?_, e3⟩
            rw [upd_ne (ne_of e2 hb4 (fun z => by cases z))]
            exact st2 _ _ e2
          · rw [List.getElem?_append_right (by omega)] at hu
            rw [List.getElem?_append_right (by omega)] at hc'
            have hj2 : j' = us4.length := by
              have := (List.getElem?_eq_some_iff.mp hu).1
              have : j' - us4.length < 1 := this
              omega
            rw [hj2, Nat.sub_self] at hu
            rw [hj2, lus4, Nat.sub_self] at hc'
            cases hu
            cases hc'
            refine ⟨t2, l, rfl, ?_, us0, i, t, st, hS, g2', hst, ht, rfl⟩
            rw [upd_ne nt2b]
            exact upd_same
        · have n2' : n ≤ c.z := n2
          have := (List.getElem?_eq_some_iff.mp hs'').1
          omega
      · obtain ⟨⟨x7', x8', x9', rfl⟩, s4, k4, us4, cs4, cur, hb4, lus4, lcs4, hus4, hU4, c1, c2, hcP⟩ := hP
        rw [lcu] at hcP
        have hcur : cur = hi + 1 := by
          rw [List.drop_length] at hcP
          have hcP' : hi < cur := hcP
          omega
        rw [hcur] at hU4
        have total : cs4.length ≤ C + 20 := by
          rcases Int.lt_or_le hi st.1 with z | z
          · have e0 : ccs = [] := lcc0 z
            rw [e0] at lcu
            have lz : cus.length = 0 := lcu
            have fC : figs st.1 ≤ C + 1 := figs_le_of h0st (by rw [Int.pow_succ]; omega)
            omega
          · have := lcc z
            have f2 : figs hi ≤ C := figs_le_of (by omega) hC
            omega
        refine ⟨⟨_, _, _, _, _, _, _, rfl⟩, s4, us4, cs4, hb4, lus4, ⟨(fun s'' hs'' => by have := (List.getElem?_eq_some_iff.mp hs'').1; omega), fun _ => total⟩, hus4, ?_, ?_⟩
        · intro s'' hs''
          have := (List.getElem?_eq_some_iff.mp hs'').1
          omega
        · intro _
          exact hU4
    · have hlt : st.1 < st'.1 := by
        have pw := List.pairwise_iff_getElem.mp hok.rises i (i + 1) (by rw [List.length_map]; omega) (by rw [List.length_map]; have := (List.getElem?_eq_some_iff.mp hst').1; omega) (by omega)
        rw [List.getElem_map, List.getElem_map, (List.getElem?_eq_some_iff.mp hst').2, (List.getElem?_eq_some_iff.mp hst).2] at pw
        exact pw
      have b60 : (st'.1 - 1) < 2 ^ C := by
        have := hhi st' (List.mem_of_getElem? hst')
        omega
      refine ⟨_, rfl, _, rfl, rfl, _, rfl, iteF ⟨_, rfl, ?_⟩⟩
      refine ⟨_, _, C, rfl, h0st, b60, hC2, fun cb cus ccs H3 s3 ncb hcb lcu lcc lcc0 hcu hcc => ?_⟩
      have lcs' := lcs.1 st hst
      have s13 := s1T.trans s3
      have hb3 := s3 _ _ (sT _ _ hb)
      have ncbb : cb ≠ b := (ne_of_none (sT _ _ hb) ncb).symm
      have cle : st.1 ≤ (st'.1 - 1) + 1 := by omega
      have pC : (0 : Int) < 2 ^ C := Int.pow_pos (by decide)
      have lenC : ccs.length ≤ C + 2 := by
        have := lcc (by omega)
        have f2 : figs (st'.1 - 1) ≤ C := figs_le_of (by omega) b60
        omega
      refine ⟨cb, rfl, ⟨_, SqL.of hcb⟩, ?_⟩
      refine for_list (xs := cus) (fun j σ H' => (∃ x7 x8 x9, σ = [some (.ref S), some (.int hi), some (.ref b), some (.int (i : Nat)), some (V.int (st'.1 - 1)), some (.int st.1), some (.ref l), x7, x8, x9]) ∧ Same H H' ∧ (∀ d u, H3 d = some u → d ≠ b → H' d = some u) ∧ ∃ (us : List V) (cs : List FCell) (cur : Int), H' b = some (.lst us) ∧ us.length = cs.length ∧ cs.length ≤ figs st.1 + i + j ∧ (∀ (j : Nat) (u : V) (c : FCell), us[j]? = some u → cs[j]? = some c → Fc0 H S sts H' u c) ∧ FcU sts 0 cur cs ∧ st.1 ≤ cur ∧ cur ≤ (st'.1 - 1) + 1 ∧ CellsP cur (st'.1 - 1) (ccs.drop j))
        ⟨⟨_, _, _, rfl⟩, s13, (fun d u e _ => e), us, cs, st.1, hb3, lus, lcs', (fun j u c h1 h2 => (hus j u c h1 h2).same (sT.trans s3)), hU st hst, Int.le_refl _, cle, hcc⟩ (fun j σ H' _ hP => SqL.of (hP.2.2.1 _ _ hcb ncbb)) (fun j x σ H4 hx hP => ?_) (fun σ H4 hP => ?_)
      · obtain ⟨⟨x7', x8', x9', rfl⟩, s4, k4, us4, cs4, cur, hb4, lus4, lcs4, hus4, hU4, c1, c2, hcP⟩ := hP
        obtain ⟨c, hc⟩ : ∃ c, ccs[j]? = some c := ⟨_, List.getElem?_eq_getElem (by have := (List.getElem?_eq_some_iff.mp hx).1; omega)⟩
        have hjl : j < ccs.length := (List.getElem?_eq_some_iff.mp hc).1
        have ed : ccs.drop j = c :: ccs.drop (j + 1) := by
          rw [List.drop_eq_getElem_cons hjl, (List.getElem?_eq_some_iff.mp hc).2]
        rw [ed] at hcP
        obtain ⟨d1, d2, d3, d4, d5⟩ := hcP
        obtain ⟨ct, rfl, hct⟩ := hcu j x c hx hc
        have nctb : ct ≠ b := fun z => by
          rw [z, hb3] at hct
          cases hct
        refine ⟨ct, _, rfl, SqT.of (k4 _ _ hct nctb), rfl, _, _, rfl, _, _, rfl, _, _, rfl, rfl, ?_⟩
        refine ⟨_, rfl, .inl ⟨rfl, _, SqL.of hb4⟩, _, rfl, _, rfl, _, rfl, _, rfl, (by show 4 ≤ sizeLine; decide), fun t2 nt2 => ?_⟩
        have st2 := same_new (o := .tup [.int c.L, .int c.a, .int c.z, .ref l]) nt2
        have nt2b : t2 ≠ b := (ne_of_none hb4 nt2).symm
        refine ⟨b, us4, _, rfl, rfl, st2 _ _ hb4, szl (by have fC : figs st.1 ≤ C + 1 := figs_le_of h0st (by rw [Int.pow_succ]; have := hhi st hstm; omega); have j1 := (List.getElem?_eq_some_iff.mp hc).1; have cl : ccs.length ≤ C + 2 := lenC; omega), ?_⟩
        refine ⟨⟨_, _, _, rfl⟩, Same.upd_new (s4.trans st2) nb, (fun d u e n => by rw [upd_ne n]; exact st2 _ _ (k4 d u e n)), us4 ++ [.ref t2], cs4 ++ [⟨c.L, c.a, c.z, st.2⟩], c.z + 1, upd_same, by rw [List.length_append, List.length_append, lus4]; rfl, by rw [List.length_append]; show cs4.length + 1 ≤ _; omega, fun j' u c' hu hc' => ?_, hU4.snoc (c := ⟨c.L, c.a, c.z, st.2⟩) d1 d2 (fun n n1 n2 => ⟨d4 n n1 n2, stPw_at hok.rises hst (by have n1' : c.a ≤ n := n1; omega) fun s'' hs'' => ?_⟩) ⟨st, hstm, rfl⟩, by omega, by omega, d5⟩
        · by_cases hj' : j' < us4.length
          · rw [List.getElem?_append_left hj'] at hu
            rw [List.getElem?_append_left (by omega)] at hc'
            obtain ⟨t', l', e1, e2, e3⟩ := hus4 j' u c' hu hc'
            refine ⟨t', l', e1, ?_, e3⟩
            rw [upd_ne (ne_of e2 hb4 (fun z => by cases z))]
            exact st2 _ _ e2
          · rw [List.getElem?_append_right (by omega)] at hu
            rw [List.getElem?_append_right (by omega)] at hc'
            have hj2 : j' = us4.length := by
              have := (List.getElem?_eq_some_iff.mp hu).1
              have : j' - us4.length < 1 := this
              omega
            rw [hj2, Nat.sub_self] at hu
            rw [hj2, lus4, Nat.sub_self] at hc'
            cases hu
            cases hc'
            refine ⟨t2, l, rfl, ?_, us0, i, t, st, hS, g2', hst, ht, rfl⟩
            rw [upd_ne nt2b]
            exact upd_same
        · have n2' : n ≤ c.z := n2
          rw [hst'] at hs''
          cases hs''
          omega
      · obtain ⟨⟨x7', x8', x9', rfl⟩, s4, k4, us4, cs4, cur, hb4, lus4, lcs4, hus4, hU4, c1, c2, hcP⟩ := hP
        rw [lcu] at hcP
        have hcur : cur = (st'.1 - 1) + 1 := by
          rw [List.drop_length] at hcP
          have hcP' : (st'.1 - 1) < cur := hcP
          omega
        rw [hcur] at hU4
        have total : cs4.length ≤ figs st'.1 + (i + 1) := by
          have := lcc (by omega)
          have := figs_mono (a := st'.1 - 1) (n := st'.1) (by omega) (by omega)
          omega
        refine ⟨⟨_, _, _, _, _, _, _, rfl⟩, s4, us4, cs4, hb4, lus4, ⟨(fun s'' hs'' => by rw [hst'] at hs''; cases hs''; exact total), fun z => by have := (List.getElem?_eq_some_iff.mp hst').1; omega⟩, hus4, ?_, ?_⟩
        · intro s'' hs''
          rw [hst'] at hs''
          cases hs''
          rw [Int.sub_add_cancel] at hU4
          exact hU4
        · intro z
          have := (List.getElem?_eq_some_iff.mp hst').1
          omega
  · obtain ⟨⟨x3, x4, x5, x6, x7, x8, x9, rfl⟩, s1, us, cs, hb, lus, lcs, hus, _, hU⟩ := hP
    rw [lus0] at hU lcs
    refine ⟨_, rfl, b, us, rfl, SqL.of hb, fun p np => ?_⟩
    have sp := same_new (o := .lst us.reverse) np
    refine q p us cs _ (s1.trans sp) (s1.free np) upd_same ⟨lus, fun i u c hu hc => ?_⟩ (lcs.2 rfl) ((hU rfl).done rfl)
    exact (hus i u c hu hc).same sp
end
end K18

set_option Elab.async false
set_option linter.all false
set_option maxRecDepth 100000
set_option maxHeartbeats 4000000
namespace K18
open PySem PySem.Spec PyProof.Rows L2 OG
open C8 (pss_cut pe_gc)
open OGX

section
variable {P : Program} {w : World} {K : PySem.W.Frag} {mg : Str → Option Value} {base : Heap}
theorem ok_weight (T : Tops K mg) : FnOk P w K mg base CX0 2 T.flesser_weight T.dlesser_weight ["powers", "figures"] spWeight := by
  have Gvalue : FnOk P w K mg base CX0 1 T.fvalue T.dvalue ["polynomial", "number"] spVal := ok_val T
  refine T.Flesser_weight.ok (k := 1) sclesser_weight (fun vs H Q E h => ?_) (fun cdv A outer s H vs Q E hr h => ?_)
  · obtain ⟨l, pw, L, rfl, _⟩ := h
    rfl
  obtain ⟨l, pw, L, rfl, ⟨us, hl, lus, hus⟩, hne, hlen, hP', q⟩ := h
  refine ⟨_, (pss_cons (ps_set (i := 2) sclesser_weight.nd rfl (Or.inl rfl) pe_int)
 (pss_cons (ps_for PassesOwn.never rfl (pi_list (pe_slice sl_list (pv 0) (po_some pe_int) po_none)) (pg_tup rfl (pgs_cons (pg_name (i := 3) sclesser_weight.nd rfl (Or.inl rfl)) (pgs_cons (pg_name (i := 4) sclesser_weight.nd rfl (Or.inl rfl)) pgs_nil)))
  (pss_one (ps_aug (i := 2) sclesser_weight.nd rfl (Or.inl rfl) (pe_call Gvalue (hr.mono (by omega)) (by rfl) T.gvalue T.Fvalue.kp T.bvalue .nil pass0 (pa_cons (pe_lc (own := [("part", 5)]) rfl sclesser_weight.nd (pi_list (pv 4)) (blkOk_by (N := Nlesser_weight) (sc := defScope slesser_weight) (by decide +kernel)) (fun _ _ _ _ _ => (pg_name (i := 5) sclesser_weight.nd rfl (Or.inl rfl))) (fun _ _ _ _ _ => pts_nil) (fun _ _ _ _ _ => (pe_callB call_abs (by rfl) T.mabs (by decide +kernel) (pa_cons (pv 5) pa_nil)))) (pa_cons (pv 1) pa_nil))) ip_add)))
 (pss_one (ps_ret (pv 2))))), ?_⟩
  obtain ⟨p0, pr, rfl⟩ := List.exists_cons_of_ne_nil hne
  obtain ⟨u0, ur, rfl⟩ : ∃ u0 ur, us = u0 :: ur := by
    cases us with
    | nil => cases lus
    | cons a b => exact ⟨a, b, rfl⟩
  have lur : ur.length = pr.length := by simpa using lus
  refine ⟨_, rfl, 1, rfl, ?_⟩
  dsimp only [tNoPart]
  refine ⟨l, _, rfl, SqL.of hl, fun c nc => ?_⟩
  have ec : cutV (u0 :: ur) (some 1) none = ur := by
    unfold cutV
    rw [HT.sIx_none]
    show ((u0 :: ur).drop (HT.sIx (u0 :: ur).length 0 (some ((1 : Nat) : Int)))).take ((u0 :: ur).length - HT.sIx (u0 :: ur).length 0 (some ((1 : Nat) : Int))) = _
    rw [HT.sIx_nat]
    show ((u0 :: ur).drop (min 1 (ur.length + 1))).take (ur.length + 1 - min 1 (ur.length + 1)) = _
    rw [Nat.min_eq_left (by omega)]
    show ur.take (ur.length + 1 - 1) = _
    rw [Nat.add_sub_cancel, List.take_length]
  rw [ec]
  have sc := same_new (o := .lst ur) nc
  refine ⟨c, rfl, ⟨_, SqL.of upd_same⟩, ?_⟩
  refine for_list (D := { nx := tRet (tVar 2) { nx := fun _ H' => Q .non H', rt := Q }, rt := Q }) (xs := ur) (fun i σ H' => (∃ x3 x4 x5, σ = [some (.ref l), some (.int L), some (.int (wtA (pr.take i) L)), x3, x4, x5]) ∧ Same H H' ∧ Same (upd H c (.lst ur)) H') ?_ (fun i σ H' _ hP => SqL.of (hP.2.2 _ _ upd_same)) (fun i x σ H2 hx hP => ?_) (fun σ H2 hP => ?_)
  · exact ⟨⟨none, none, none, rfl⟩, sc, Same.refl _⟩
  · obtain ⟨⟨x3, x4, x5, rfl⟩, s2, s2'⟩ := hP
    obtain ⟨p, hp⟩ : ∃ p, pr[i]? = some p := ⟨_, List.getElem?_eq_getElem (by have := (List.getElem?_eq_some_iff.mp hx).1; omega)⟩
    obtain ⟨t, bb, rfl, ht, hbb⟩ := hus (i + 1) x p hx hp
    refine ⟨t, _, rfl, SqT.of (s2 _ _ ht), rfl, _, _, rfl, _, _, rfl, rfl, ?_⟩
    have hbb2 := s2 _ _ hbb
    obtain ⟨hP1, hP2⟩ := hP' p (List.mem_cons_of_mem _ (List.mem_of_getElem? hp))
    have lp : p.2.length ≤ 1000 := by
      have : (absL p.2).length ≤ 1000 := hP1
      unfold absL at this
      rwa [List.length_map] at this
    refine ⟨_, rfl, _, rfl, bb, rfl, ⟨_, SqL.of hbb2⟩, fun D nD => ?_⟩
    refine lc_list_map (K := K) ((absL p.2).map V.int) 5 rfl (fun v => rfl) (by unfold absL; rw [List.length_map, List.length_map, List.length_map]) (by rw [List.length_map]; omega) hbb2 nD (fun j x y H9 Q9 hx' hy s9 k9 => ?_) (fun H9 s9 hD => ?_)
    · obtain ⟨z, hz⟩ : ∃ z, p.2[j]? = some z := by
        have := (List.getElem?_eq_some_iff.mp hx').1
        rw [List.length_map] at this
        exact ⟨_, List.getElem?_eq_getElem this⟩
      rw [mapI_get hz] at hx'
      unfold absL at hy
      rw [List.getElem?_map, List.getElem?_map, hz] at hy
      cases hx'
      cases hy
      have ab : (if z < 0 then -z else z) = ((z.natAbs : Nat) : Int) := by split <;> omega
      refine ⟨_, rfl, z, rfl, ?_⟩
      rw [ab]
      exact k9 H9 (Same.refl H9)
    refine ⟨_, rfl, D, absL p.2, L, rfl, hD, ⟨hP1, hP2⟩, _, _, rfl, rfl, ⟨some (.int p.1), some (.ref bb), x5, ?_⟩, s2.trans s9, s2'.trans s9⟩
    rw [wtA_take L hp]
    rfl
  · obtain ⟨⟨x3, x4, x5, rfl⟩, s2, _⟩ := hP
    rw [lur, List.take_length]
    exact ⟨_, rfl, q H2 s2⟩
theorem ok_least (T : Tops K mg) : FnOk P w K mg base CX0 1 T.fleast_low T.dleast_low ["stretch"] spLeastF := by
  refine T.Fleast_low.ok (k := 0) scleast_low (fun vs H Q E h => ?_) (fun cdv A outer s H vs Q E hr h => ?_)
  · obtain ⟨v, st, rfl, _⟩ := h
    rfl
  obtain ⟨v, st, rfl, ⟨t0, l, rfl, ht0, us, hl, lus, hus⟩, hne, hlen, hpn, hpl, q⟩ := h
  refine ⟨_, (pss_cons (ps_asg (pv 0) (pg_tup rfl (pgs_cons (pg_name (i := 2) scleast_low.nd rfl (Or.inl rfl)) (pgs_cons (pg_name (i := 3) scleast_low.nd rfl (Or.inl rfl)) pgs_nil))))
 (pss_cons (ps_set (i := 1) scleast_low.nd rfl (Or.inl rfl) (pe_callB (cr_max rfl) (by rfl) T.mmax (by decide +kernel) (pa_cons (pe_lc (own := [("power_of_n", 4), ("polynomial", 5)]) rfl scleast_low.nd (pi_list (pv 3)) (blkOk_by (N := Nleast_low) (sc := defScope sleast_low) (by decide +kernel)) (fun _ _ _ _ _ => (pg_tupK (K := K) (n := 2) rfl rfl (pgs_cons (pg_name (i := 4) scleast_low.nd rfl (Or.inl rfl)) (pgs_cons (pg_name (i := 5) scleast_low.nd rfl (Or.inl rfl)) pgs_nil)))) (fun _ _ _ _ _ => pts_nil) (fun _ _ _ _ _ => (pe_op op_sub (pe_callB (call_len_seqK (K := K) rfl) (by rfl) T.mlen PySem.boot_len (pa_cons (pv 5) pa_nil)) pe_int))) pa_nil)))
 (pss_one (ps_ret (pe_callB (call_max3Nu rfl) (by rfl) T.mmax (by decide +kernel) (pa_cons pe_int (pa_cons (pe_op op_mul pe_int (pv 1)) (pa_cons (pe_op op_add (pe_bits (pv 2)) pe_int) pa_nil)))))))), ?_⟩
  refine ⟨_, rfl, t0, _, rfl, SqT.of ht0, rfl, _, _, rfl, _, _, rfl, rfl, ?_⟩
  refine ⟨_, rfl, l, rfl, ⟨_, SqL.of hl⟩, fun D nD => ?_⟩
  refine lc_list (xs := us) (fun i H' => Same H H' ∧ H' D = some (.lst (((st.2.take i).map fun p => (p.2.length : Int) - 1).map V.int))) ⟨same_new nD, upd_same⟩ (fun i H' _ hP => SqL.of (hP.1 _ _ hl)) (fun i x H' hx hP => ?_) (fun H' hP => ?_)
  · obtain ⟨s2, hD⟩ := hP
    obtain ⟨p, hp⟩ : ∃ p, st.2[i]? = some p := ⟨_, List.getElem?_eq_getElem (by have := (List.getElem?_eq_some_iff.mp hx).1; omega)⟩
    obtain ⟨t, bb, rfl, ht, hbb⟩ := hus i x p hx hp
    refine ⟨t, _, rfl, SqT.of (s2 _ _ ht), rfl, _, _, rfl, _, _, rfl, rfl, rfl, yes_go ?_⟩
    refine ⟨_, rfl, bb, _, rfl, .inl (SqL.of (s2 _ _ hbb)), ?_⟩
    rw [List.length_map]
    refine ⟨_, 1, rfl, rfl, _, hD, szl (by rw [List.length_map, List.length_map, List.length_take]; have := (List.getElem?_eq_some_iff.mp hx).1; omega), Same.upd_new s2 nD, ?_⟩
    rw [upd_same, List.take_add_one, hp, List.map_append, List.map_append]
    rfl
  · obtain ⟨s2, hD⟩ := hP
    rw [lus, List.take_length] at hD
    refine ⟨D, _, rfl, SqL.of hD, by rw [List.length_map]; exact List.length_pos_iff.mpr hne, fun m hm hx => ?_⟩
    have em : m = (deepOf st.2 : Int) := deep_max hpn hm hx
    subst em
    have d9 := deep_le hpl
    refine ⟨_, rfl, 2, _, rfl, rfl, .inl ⟨by decide, by decide⟩, _, rfl, st.1, rfl, _, 1, rfl, rfl, _, _, _, _, rfl, max3_int _ _ _, ?_⟩
    have e : (if (if (1 : Int) < 2 * (deepOf st.2 : Int) then 2 * (deepOf st.2 : Int) else 1) < (figs st.1 : Int) + 1 then (figs st.1 : Int) + 1 else (if (1 : Int) < 2 * (deepOf st.2 : Int) then 2 * (deepOf st.2 : Int) else 1)) = leastOf st := by
      unfold leastOf
      split <;> split at * <;> omega
    have q' := q H' s2
    rw [← e] at q'
    exact q'
theorem ok_may (T : Tops K mg) : FnOk P w K mg base CX0 3 T.fmay_be_low T.dmay_be_low ["stretch", "figures"] spMayLowF := by
  have Gleast_low : FnOk P w K mg base CX0 1 T.fleast_low T.dleast_low ["stretch"] spLeastF := ok_least T
  have Glesser_weight : FnOk P w K mg base CX0 2 T.flesser_weight T.dlesser_weight ["powers", "figures"] spWeight := ok_weight T
  refine T.Fmay_be_low.ok (k := 2) scmay_be_low (fun vs H Q E h => ?_) (fun cdv A outer s H vs Q E hr h => ?_)
  · obtain ⟨v, st, f, B, rfl, _⟩ := h
    rfl
  obtain ⟨v, st, f, B, rfl, hSt, hok, hB, hB0, hf, q⟩ := h
  refine ⟨_, (pss_one (ps_ret (pe_and (pe_cmpR op_ge (pv 1) (pe_call Gleast_low (hr.mono (by omega)) (by rfl) T.gleast_low T.Fleast_low.kp T.bleast_low .nil pass0 (pa_cons (pv 0) pa_nil)) (nomark _)) (pe_one (pe_cmpR op_lt (pe_bits (pe_call Glesser_weight (hr.mono (by omega)) (by rfl) T.glesser_weight T.Flesser_weight.kp T.blesser_weight .nil pass0 (pa_cons (pe_ix ix_tup (pv 0) pe_int (fun _ _ => rfl)) (pa_cons (pv 1) pa_nil)))) (pv 1) (nomark _)))))), ?_⟩
  refine ⟨_, rfl, _, rfl, v, st, rfl, hSt, hok.ne, hok.few, (fun p hp => (hok.polys p hp).1), (fun p hp => (hok.polys p hp).2.1), fun H1 s1 => ?_⟩
  refine ⟨f, _, rfl, rfl, _, rfl, ?_⟩
  have hSt1 := hSt.same s1
  obtain ⟨t0, l, rfl, ht0, hpw⟩ := id hSt1
  by_cases c : leastOf st ≤ f
  · rw [decide_eq_true c]
    refine iteT ?_
    refine ⟨_, rfl, t0, _, 1, _, rfl, rfl, SqT.of ht0, rfl, _, rfl, l, st.2, f, rfl, hpw, hok.ne, hok.few, fun p hp => (hok.pok hB0 hf (by omega) p hp).2, fun H2 s2 => ?_⟩
    refine ⟨_, rfl, _, rfl, _, _, rfl, rfl, ?_⟩
    have := q H2 (s1.trans s2)
    rw [show decide (MayLow st f) = decide ((figs (wtA (st.2.drop 1) f) : Int) < f) from decide_eq_decide.mpr ⟨fun z => z.2, fun z => ⟨c, z⟩⟩] at this
    exact this
  · rw [decide_eq_false c]
    refine iteF ?_
    have := q H1 s1
    rw [decide_eq_false (show ¬ MayLow st f from fun z => c z.1)] at this
    exact this
theorem ok_first_low (T : Tops K mg) : FnOk P w K mg base CX0 4 T.ffirst_low T.dfirst_low ["stretch"] spFirstLowF := by
  have Gleast_low : FnOk P w K mg base CX0 1 T.fleast_low T.dleast_low ["stretch"] spLeastF := ok_least T
  have Glesser_weight : FnOk P w K mg base CX0 2 T.flesser_weight T.dlesser_weight ["powers", "figures"] spWeight := ok_weight T
  have Gmay_be_low : FnOk P w K mg base CX0 3 T.fmay_be_low T.dmay_be_low ["stretch", "figures"] spMayLowF := ok_may T
  refine T.Ffirst_low.ok (k := 3) scfirst_low (fun vs H Q E h => ?_) (fun cdv A outer s H vs Q E hr h => ?_)
  · obtain ⟨v, st, B, F, rfl, _⟩ := h
    rfl
  obtain ⟨v, st, B, F, rfl, hSt, hok, hB, hB0, hF, hFm, q⟩ := h
  refine ⟨_, (pss_cons (ps_set (i := 1) scfirst_low.nd rfl (Or.inl rfl) (pe_call Gleast_low (hr.mono (by omega)) (by rfl) T.gleast_low T.Fleast_low.kp T.bleast_low .nil pass0 (pa_cons (pv 0) pa_nil)))
 (pss_cons (ps_while PassesOwn.never (pt_not (pt_val (pe_call Gmay_be_low (hr.mono (by omega)) (by rfl) T.gmay_be_low T.Fmay_be_low.kp T.bmay_be_low .nil pass0 (pa_cons (pv 0) (pa_cons (pv 1) pa_nil)))))
  (pss_one (ps_set (i := 1) scfirst_low.nd rfl (Or.inl rfl) (pe_op op_add (pe_bits (pe_call Glesser_weight (hr.mono (by omega)) (by rfl) T.glesser_weight T.Flesser_weight.kp T.blesser_weight .nil pass0 (pa_cons (pe_ix ix_tup (pv 0) pe_int (fun _ _ => rfl)) (pa_cons (pv 1) pa_nil)))) pe_int))))
 (pss_one (ps_ret (pv 1))))), ?_⟩
  have lp := leastOf_pos st
  have big : ∀ f : Nat, f ≤ F → ((f : Int)).natAbs < 2 ^ 3000 := fun f hf => by
    have e : (30000 : Nat) < 2 ^ 15 := by decide
    have e2 : (2 : Nat) ^ 15 ≤ 2 ^ 3000 := Nat.pow_le_pow_right (by decide) (by decide)
    omega
  refine ⟨_, rfl, v, st, rfl, hSt, hok.ne, hok.few, (fun p hp => (hok.polys p hp).1), (fun p hp => (hok.polys p hp).2.1), fun H1 s1 => ?_⟩
  refine ⟨fun m σ H' => ∃ f : Nat, m = F - f ∧ σ = [some v, some (.int f)] ∧ Same H H' ∧ f ≤ F ∧ leastOf st ≤ f, ⟨_, (leastOf st).toNat, rfl, by rw [show (((leastOf st).toNat : Nat) : Int) = leastOf st by omega]; rfl, s1, by have := hFm.1; omega, by omega⟩, ?_⟩
  rintro m σ H2 ⟨f, rfl, rfl, s2, fF, flo⟩
  have hSt2 := hSt.same s2
  refine ⟨_, rfl, _, rfl, v, st, (f : Int), B, rfl, hSt2, hok, hB, hB0, big f fF, fun H3 s3 => ?_⟩
  refine ⟨_, rfl, ?_⟩
  by_cases c : MayLow st (f : Int)
  · rw [decide_eq_true c]
    exact iteF ⟨_, rfl, q f H3 (s2.trans s3) (by omega) fF c⟩
  · rw [decide_eq_false c]
    have nn := wtA_nn (L := (f : Int)) (by omega) (st.2.drop 1)
    have mono := wtA_mono (L := (f : Int)) (M := (F : Int)) (by omega) (by omega) (st.2.drop 1)
    have g1 : f ≤ figs (wtA (st.2.drop 1) (f : Int)) := by
      refine Nat.not_lt.mp fun z => c ⟨flo, by omega⟩
    have g2 : figs (wtA (st.2.drop 1) (f : Int)) < F := by
      have a := figs_mono nn mono
      have b := hFm.2
      omega
    refine iteT ⟨fun σ' H4 => σ' = [some v, some (.int ((figs (wtA (st.2.drop 1) (f : Int)) + 1 : Nat) : Int))] ∧ Same H H4, fun σ' H4 ⟨g3, g4⟩ => ⟨_, by omega, figs (wtA (st.2.drop 1) (f : Int)) + 1, rfl, g3, g4, by omega, by omega⟩, ?_⟩
    obtain ⟨t0, l, rfl, ht0, hpw⟩ := hSt.same (s2.trans s3)
    refine ⟨_, rfl, t0, _, 1, _, rfl, rfl, SqT.of ht0, rfl, _, rfl, l, st.2, (f : Int), rfl, hpw, hok.ne, hok.few, fun p hp => (hok.pok hB0 (big f fF) (by omega) p hp).2, fun H5 s5 => ?_⟩
    exact ⟨_, rfl, _, 1, rfl, rfl, rfl, (s2.trans s3).trans s5⟩
theorem ok_block (T : Tops K mg) : FnOk P w K mg base CX0 2 T.fblock_sign T.dblock_sign ["powers", "figures"] spBlockF := by
  have Gvalue : FnOk P w K mg base CX0 1 T.fvalue T.dvalue ["polynomial", "number"] spVal := ok_val T
  have Gsign_of : FnOk P w K mg base CX0 1 T.fsign_of T.dsign_of ["number"] spSg := ok_sg T
  refine T.Fblock_sign.ok (k := 1) scblock_sign (fun vs H Q E h => ?_) (fun cdv A outer s H vs Q E hr h => ?_)
  · obtain ⟨l, pw, f, rfl, _⟩ := h
    rfl
  obtain ⟨l, pw, f, rfl, ⟨us, hl, lus, hus⟩, hP, q⟩ := h
  refine ⟨_, (pss_cons (ps_for PassesOwn.never rfl (pi_list (pv 0)) (pg_tup rfl (pgs_cons (pg_name (i := 2) scblock_sign.nd rfl (Or.inl rfl)) (pgs_cons (pg_name (i := 3) scblock_sign.nd rfl (Or.inl rfl)) pgs_nil)))
  (pss_cons (ps_set (i := 4) scblock_sign.nd rfl (Or.inl rfl) (pe_call Gsign_of (hr.mono (by omega)) (by rfl) T.gsign_of T.Fsign_of.kp T.bsign_of .nil pass0 (pa_cons (pe_call Gvalue (hr.mono (by omega)) (by rfl) T.gvalue T.Fvalue.kp T.bvalue .nil pass0 (pa_cons (pv 3) (pa_cons (pv 1) pa_nil))) pa_nil)))
 (pss_one (ps_if (pt_cmpR op_ne (pv 4) pe_int (nomark _))
  (pss_one (ps_ret (pv 4)))
  pss_nil))))
 (pss_one (ps_ret pe_int))), ?_⟩
  refine ⟨_, rfl, l, rfl, ⟨_, SqL.of hl⟩, ?_⟩
  refine for_list (xs := us) (fun i σ H' => (∃ x2 x3 x4, σ = [some (.ref l), some (.int f), x2, x3, x4]) ∧ H' = H ∧ blockSg pw f = blockSg (pw.drop i) f) ⟨⟨_, _, _, rfl⟩, rfl, rfl⟩ (fun i σ H' _ hP' => by rw [hP'.2.1]; exact SqL.of hl) (fun i x σ H2 hx hP' => ?_) (fun σ H2 hP' => ?_)
  · obtain ⟨⟨x2, x3, x4, rfl⟩, rfl, hb⟩ := hP'
    obtain ⟨p, hp⟩ : ∃ p, pw[i]? = some p := ⟨_, List.getElem?_eq_getElem (by have := (List.getElem?_eq_some_iff.mp hx).1; omega)⟩
    obtain ⟨t, bb, rfl, ht, hbb⟩ := hus i x p hx hp
    have hil : i < pw.length := (List.getElem?_eq_some_iff.mp hp).1
    have ed : pw.drop i = p :: pw.drop (i + 1) := by
      rw [List.drop_eq_getElem_cons hil, (List.getElem?_eq_some_iff.mp hp).2]
    rw [ed] at hb
    refine ⟨t, _, rfl, SqT.of ht, rfl, _, _, rfl, _, _, rfl, rfl, ?_⟩
    refine ⟨_, rfl, _, rfl, bb, p.2, f, rfl, hbb, hP p (List.mem_of_getElem? hp), _, rfl, ?_⟩
    refine ⟨_, rfl, rfl, _, rfl, ite2 (fun c => ?_) (fun c => ?_)⟩
    · have c2 : sgX (ev p.2 f) ≠ 0 := fun z => by
        have c' : (!decide (V.int (sgX (ev p.2 f)) = V.int 0)) = true := c
        rw [z, decide_eq_true rfl] at c'
        cases c'
      have e : blockSg (p :: pw.drop (i + 1)) f = sgX (ev p.2 f) := if_neg fun z => c2 (by rw [z]; rfl)
      rw [e] at hb
      rw [← hb]
      exact ⟨_, rfl, q⟩
    · have c2 : sgX (ev p.2 f) = 0 := by
        have c' : ¬ (!decide (V.int (sgX (ev p.2 f)) = V.int 0)) = true := c
        by_cases z : sgX (ev p.2 f) = 0
        · exact z
        · rw [decide_eq_false (fun y => z (V.int.inj y))] at c'
          exact absurd rfl c'
      have e : blockSg (p :: pw.drop (i + 1)) f = blockSg (pw.drop (i + 1)) f := if_pos (sgX_eq_zero.mp c2)
      rw [e] at hb
      exact ⟨⟨_, _, _, rfl⟩, rfl, hb⟩
  · obtain ⟨⟨x2, x3, x4, rfl⟩, rfl, hb⟩ := hP'
    rw [lus, List.drop_length] at hb
    have q' := q
    rw [hb] at q'
    exact q'
end
end K18

set_option Elab.async false
set_option linter.all false
set_option maxRecDepth 100000
set_option maxHeartbeats 4000000
namespace K18
open PySem PySem.Spec PyProof.Rows L2 OG
open C8 (pss_cut pe_gc)
open OGX

section
variable {P : Program} {w : World} {K : PySem.W.Frag} {mg : Str → Option Value} {base : Heap}
theorem ok_unlike (T : Tops K mg) : FnOk P w K mg base CX0 3 T.flast_unlike T.dlast_unlike ["polynomial", "low", "high"] spUnlike := by
  have Gsign_at : FnOk P w K mg base CX0 2 T.fsign_at T.dsign_at ["polynomial", "number"] spSgAt := ok_sgat T
  refine T.Flast_unlike.ok (k := 2) sclast_unlike (fun vs H Q E h => ?_) (fun cdv A outer s H vs Q E hr h => ?_)
  · obtain ⟨a, p, lo, hi, rfl, _⟩ := h
    rfl
  obtain ⟨a, p, lo, hi, rfl, ha, hle, hp, l60, h60, hl, q⟩ := h
  refine ⟨_, (pss_cons (ps_for PassesOwn.never rfl (pi_revR (by rfl) T.mreversed (prg_2 (by rfl) T.mrange (pe_callB (call_max2 rfl) (by rfl) T.mmax (by decide +kernel) (pa_cons (pv 1) (pa_cons (pe_op op_sub (pe_op op_add (pv 2) pe_int) (pe_callB call_len_seq (by rfl) T.mlen PySem.boot_len (pa_cons (pv 0) pa_nil))) pa_nil))) (pe_op op_add (pv 2) pe_int))) (pg_name (i := 3) sclast_unlike.nd rfl (Or.inl rfl))
  (pss_one (ps_if (pt_cmpR op_ne (pe_call Gsign_at (hr.mono (by omega)) (by rfl) T.gsign_at T.Fsign_at.kp T.bsign_at .nil pass0 (pa_cons (pv 0) (pa_cons (pv 3) pa_nil))) pe_int (nomark _))
  (pss_one (ps_ret (pv 3)))
  pss_nil)))
 (pss_one (ps_ret pe_non))), ?_⟩
  refine ⟨_, rfl, _, rfl, hi, 1, rfl, rfl, _, rfl, a, _, rfl, .inl (SqL.of ha), ?_⟩
  rw [List.length_map]
  refine ⟨_, _, rfl, rfl, _, _, rfl, ?_⟩
  generalize hM : (if hi + 1 - (p.length : Int) > lo then hi + 1 - (p.length : Int) else lo) = M
  have hM1 : lo ≤ M ∧ (M = lo ∨ M = hi + 1 - (p.length : Int)) ∧ M ≤ hi + 1 := by
    rw [← hM]
    split <;> omega
  have e60 : (2 : Nat) ^ 60 = 1152921504606846976 := by decide
  have e62 : (2 : Int) ^ 62 = 4611686018427387904 := by decide
  refine ⟨_, rfl, hi, 1, rfl, rfl, M, hi + 1, rfl, rfl, by omega, by omega, by omega, by omega, ?_⟩
  have eN : (hi + 1 - M).toNat = (hi + 1 - M).toNat := rfl
  refine for_it walk_rangeC (fun j σ H' => (∃ x3, σ = [some (.ref a), some (.int lo), some (.int hi), x3]) ∧ H' = H ∧ ∀ n, hi - j < n → n ≤ hi → ev p n = 0) ⟨⟨_, rfl⟩, rfl, fun n n1 n2 => by omega⟩ (fun _ _ _ _ _ => trivial) (fun j v σ H3 H3' hj hP hY => ?_) (fun σ H3 hP => ?_)
  · obtain ⟨⟨x3, rfl⟩, rfl, hz⟩ := hP
    obtain ⟨rfl, rfl⟩ := hY
    have ep : M + (((hi + 1 - M).toNat : Nat) : Int) - 1 + ((j : Nat) : Int) * (-1) = hi - j := by omega
    dsimp only
    rw [ep]
    refine ⟨_, rfl, _, rfl, a, p, hi - j, rfl, ha, hp.at (by omega) (by omega), rfl, _, rfl, ite2 (fun c => ?_) (fun c => ?_)⟩
    · have c2 : sgX (ev p (hi - j)) ≠ 0 := fun z => by
        have : (!decide (V.int (sgX (ev p (hi - j))) = V.int 0)) = true := c
        rw [z, decide_eq_true rfl] at this
        cases this
      refine ⟨_, rfl, q _ (.inr ⟨hi - j, rfl, by omega, by omega, c2, fun n n1 n2 => ?_⟩)⟩
      rw [sgX_eq_zero]
      exact hz n n1 n2
    · have c2 : ev p (hi - j) = 0 := by
        have : ¬ (!decide (V.int (sgX (ev p (hi - j))) = V.int 0)) = true := c
        by_cases z : sgX (ev p (hi - j)) = 0
        · exact sgX_eq_zero.mp z
        · rw [decide_eq_false (fun y => z (V.int.inj y))] at this
          exact absurd rfl this
      refine ⟨⟨_, rfl⟩, rfl, fun n n1 n2 => ?_⟩
      by_cases e : n = hi - j
      · rw [e]
        exact c2
      · exact hz n (by omega) n2
  · obtain ⟨⟨x3, rfl⟩, rfl, hz⟩ := hP
    refine q .non (.inl ⟨rfl, fun n n1 n2 => ?_⟩)
    rw [sgX_eq_zero]
    rcases hM1.2.1 with e | e
    · exact hz n (by omega) n2
    · exact noughts (x0 := M) p.length (Nat.le_refl _) (fun i hi' => hz (M + i) (by omega) (by omega)) n
theorem ok_sizes (T : Tops K mg) : FnOk P w K mg base CX0 6 T.fsizes_rows T.dsizes_rows ["polynomial", "low", "high", "sign"] spSizesF := by
  have Gsign_at : FnOk P w K mg base CX0 2 T.fsign_at T.dsign_at ["polynomial", "number"] spSgAt := ok_sgat T
  have Gis_steady : FnOk P w K mg base CX0 3 T.fis_steady T.dis_steady ["polynomial", "low", "high", "sign"] spSteadyF := ok_steady T
  have Gruns : FnOk P w K mg base CX0 5 T.fruns T.druns ["polynomial", "low", "high"] spRunsF := ok_runs T
  refine T.Fsizes_rows.ok (k := 5) scsizes_rows (fun vs H Q E h => ?_) (fun cdv A outer s H vs Q E hr h => ?_)
  · obtain ⟨a, p, lo, hi, s, rfl, _⟩ := h
    rfl
  obtain ⟨a, p, lo, hi, s, rfl, ha, hle, hl, hp, q⟩ := h
  refine ⟨_, (pss_cons (ps_if (pt_cmpR op_ne (pe_call Gsign_at (hr.mono (by omega)) (by rfl) T.gsign_at T.Fsign_at.kp T.bsign_at .nil pass0 (pa_cons (pv 0) (pa_cons (pv 2) pa_nil))) (pv 3) (nomark _))
  (pss_one (ps_ret (pe_tup (pa_cons (pe_lst pa_nil) (pa_cons (pv 2) pa_nil)))))
  pss_nil)
 (pss_cons (ps_if (pt_val (pe_call Gis_steady (hr.mono (by omega)) (by rfl) T.gis_steady T.Fis_steady.kp T.bis_steady .nil pass0 (pa_cons (pv 0) (pa_cons (pv 1) (pa_cons (pv 2) (pa_cons (pv 3) pa_nil))))))
  (pss_one (ps_ret (pe_tup (pa_cons (pe_lst (pa_cons (pe_tup (pa_cons pe_str (pa_cons (pv 1) (pa_cons (pv 2) pa_nil)))) pa_nil)) (pa_cons pe_non pa_nil)))))
  pss_nil)
 (pss_cons (ps_set (i := 4) scsizes_rows.nd rfl (Or.inl rfl) (pe_lst pa_nil))
 (pss_cons (ps_for PassesOwn.never rfl (pi_reversed (by rfl) T.mreversed (pa_cons (pe_call Gruns (hr.mono (by omega)) (by rfl) T.gruns T.Fruns.kp T.bruns .nil pass0 (pa_cons (pv 0) (pa_cons (pv 1) (pa_cons (pv 2) pa_nil)))) pa_nil)) (pg_tup rfl (pgs_cons (pg_name (i := 5) scsizes_rows.nd rfl (Or.inl rfl)) (pgs_cons (pg_name (i := 6) scsizes_rows.nd rfl (Or.inl rfl)) (pgs_cons (pg_name (i := 7) scsizes_rows.nd rfl (Or.inl rfl)) pgs_nil))))
  (pss_cons (ps_if (pt_cmpR op_ne (pv 7) (pv 3) (nomark _))
  (pss_one (ps_ret (pe_tup (pa_cons (pv 4) (pa_cons (pv 6) pa_nil)))))
  pss_nil)
 (pss_one (ps_expr (pe_bm PySem.F.plainAttrs_list PySem.F.slot_list_append PySem.F.type_list_append mt_append (pv 4) (pa_cons (pe_tup (pa_cons pe_str (pa_cons (pv 5) (pa_cons (pv 6) pa_nil)))) pa_nil))))))
 (pss_one (ps_ret (pe_tup (pa_cons (pv 4) (pa_cons pe_non pa_nil))))))))), ?_⟩
  have un : ∀ {x y : Int}, ¬ (!decide (V.int x = V.int y)) = true → x = y := fun {x y} z => by
    by_cases e : x = y
    · exact e
    · rw [decide_eq_false (fun y => e (V.int.inj y))] at z
      exact absurd rfl z
  have ne' : ∀ {x y : Int}, (!decide (V.int x = V.int y)) = true → x ≠ y := fun {x y} z e => by
    rw [e, decide_eq_true rfl] at z
    cases z
  refine ⟨_, rfl, _, rfl, a, p, hi, rfl, ha, (hp 0).at hle (Int.le_refl _), _, rfl, rfl, _, rfl, ite2 (fun c => ?_) (fun c => ?_)⟩
  · refine ⟨Nat.zero_le _, fun lr nlr => ⟨_, rfl, (by show 2 ≤ sizeLine; decide), fun t nt => ?_⟩⟩
    have s1 := same_new (o := .lst []) nlr
    have s2 := same_new (o := .tup [.ref lr, .int hi]) nt
    exact q t lr [] [] _ _ (s1.trans s2) nlr upd_same (s2 _ _ upd_same) (ws_nil _) (Nat.zero_le _) (.inr ⟨hi, rfl, hle, Int.le_refl _, ne' c, .nil _⟩)
  have eh : sgX (ev p hi) = s := un c
  refine ⟨_, rfl, _, rfl, _, rfl, _, rfl, a, p, lo, hi, s, rfl, ha, hle, hp 0, by omega, fun b H1 s1 hb => ?_⟩
  refine ⟨b, rfl, ite2 (fun c1 => ?_) (fun c1 => ?_)⟩
  · refine ⟨_, rfl, _, rfl, (by show 3 ≤ sizeLine; decide), fun t1 nt1 => ⟨(by show 1 ≤ sizeLine; decide), fun lr nlr => ⟨(by show 2 ≤ sizeLine; decide), fun t nt => ?_⟩⟩⟩
    have s2 := same_new (o := .tup [.str "sizes", .int lo, .int hi]) nt1
    have s3 := same_new (o := .lst [.ref t1]) nlr
    have s4 := same_new (o := .tup [.ref lr, .non]) nt
    exact q t lr _ [⟨"sizes", lo, some hi⟩] _ _ (((s1.trans s2).trans s3).trans s4) ((s1.trans s2).free nlr) upd_same (s4 _ _ upd_same) (ws_one ⟨t1, rfl, (s3.trans s4) _ _ upd_same⟩) (Nat.pow_pos (by decide)) (.inl ⟨rfl, DownS.snoc (rs := []) (.nil _) hle (hb.mp c1)⟩)
  refine ⟨Nat.zero_le _, fun lr nlr => ?_⟩
  have slr := same_new (o := .lst []) nlr
  have s1r := s1.trans slr
  have nlrH := s1.free nlr
  refine ⟨_, rfl, _, rfl, _, rfl, a, p, lo, hi, rfl, s1r _ _ ha, hl, fun _ => hp, fun rb us ss H2 s2 nrb hrb hruns => ?_⟩
  obtain ⟨_, hseg, ⟨lus, hus⟩, lss, lss3⟩ := hruns.resolve_left (fun z => absurd z.1 (by omega))
  have s12 := s1r.trans s2
  have nrl : rb ≠ lr := (ne_of_none (upd_same : (upd H1 lr (.lst [])) lr = _) nrb).symm
  have ssn : ss ≠ [] := fun z => by
    rw [z] at hseg
    exact hseg.elim
  have lE := endsL_len (hi := hi) ssn
  refine ⟨rb, us, rfl, SqL.of hrb, ?_⟩
  refine for_it (walk_rev (xs := us)) (fun i σ H' => (∃ x5 x6 x7, σ = [some (.ref a), some (.int lo), some (.int hi), some (.int s), some (.ref lr), x5, x6, x7]) ∧ Same H H' ∧ (∀ d u, H2 d = some u → d ≠ lr → H' d = some u) ∧ ∃ (ws : List V) (rs : List WRow) (cur : Int), H' lr = some (.lst ws) ∧ ws.length = i ∧ WsAt H' ws rs ∧ DownS p s rs (hi + 1) cur ∧ (∀ e, i < us.length → (endsL ss hi)[us.length - 1 - i]? = some e → cur = e + 1) ∧ (i = us.length → cur = lo))
    ⟨⟨_, _, _, rfl⟩, s12, (fun d u e _ => e), [], [], hi + 1, s2 _ _ upd_same, rfl, ws_nil _, .nil _, (fun e hlt he => ?_), fun z => absurd (List.length_pos_iff.mpr ssn) (by omega)⟩ (fun i σ H' _ hP => SqL.of (hP.2.2.1 _ _ hrb nrl)) (fun i v σ H3 H3' hi3 hP hY => ?_) (fun σ H3 hP => ?_)
  · obtain ⟨s', hs'⟩ : ∃ s', ss[us.length - 1 - 0]? = some s' := ⟨_, List.getElem?_eq_getElem (by omega)⟩
    have := (hseg.get hs' he).2.2.2.2.2.1 (by omega)
    omega
  · obtain ⟨⟨x5, x6, x7, rfl⟩, s3, k3, ws, rs, cur, hws, lws, hWs, hdn, hab, _⟩ := hP
    obtain ⟨rfl, hv⟩ := hY
    obtain ⟨s', hs'⟩ : ∃ s', ss[us.length - 1 - i]? = some s' := ⟨_, List.getElem?_eq_getElem (by omega)⟩
    obtain ⟨e', he'⟩ : ∃ e', (endsL ss hi)[us.length - 1 - i]? = some e' := ⟨_, List.getElem?_eq_getElem (by omega)⟩
    obtain ⟨t, rfl, ht⟩ := hus _ v s' e' hv hs' he'
    obtain ⟨g1, g2, g3, g4, g5, g6, g7⟩ := hseg.get hs' he'
    have ntl : t ≠ lr := ne_of ht (s2 _ _ (upd_same : (upd H1 lr (.lst [])) lr = _)) (fun z => by cases z)
    have ht3 := k3 _ _ ht ntl
    have above : cur = e' + 1 := hab e' hi3 he'
    subst above
    refine ⟨t, _, rfl, SqT.of ht3, rfl, _, _, rfl, _, _, rfl, _, _, rfl, rfl, ?_⟩
    refine ⟨_, rfl, _, rfl, rfl, _, rfl, ite2 (fun c2 => ?_) (fun c2 => ?_)⟩
    · refine ⟨_, rfl, _, rfl, (by show 2 ≤ sizeLine; decide), fun tt ntt => ?_⟩
      have s4 := same_new (o := .tup [.ref lr, .int e']) ntt
      refine q tt lr ws rs _ _ (s3.trans s4) nlrH upd_same (s4 _ _ hws) (hWs.to (Imm.same s4)) (by omega) (.inr ⟨e', rfl, by omega, g4, ?_, hdn⟩)
      rw [show sgX (ev p e') = sgX (ev p s') from g1 0 e' g2 (Int.le_refl _)]
      exact ne' c2
    · have eqs : sgX (ev p s') = s := un c2
      refine ⟨_, rfl, .inl ⟨rfl, _, SqL.of hws⟩, _, rfl, _, rfl, (by show 3 ≤ sizeLine; decide), fun t2 nt2 => ?_⟩
      have s4 := same_new (o := .tup [.str "sizes", .int s', .int e']) nt2
      have nt2l : t2 ≠ lr := (ne_of_none hws nt2).symm
      refine ⟨lr, ws, _, rfl, rfl, s4 _ _ hws, szl (by omega), ⟨_, _, _, rfl⟩, Same.upd_new (s3.trans s4) nlrH, (fun d u e n => by rw [upd_ne n]; exact s4 _ _ (k3 d u e n)), ws ++ [.ref t2], rs ++ [⟨"sizes", s', some e'⟩], s', upd_same, by rw [List.length_append, lws]; rfl, ?_, .snoc hdn g2 (steady_of g2 g1 eqs), fun e0 hlt he0 => ?_, fun hlast => g5 (by omega)⟩
      · refine (hWs.to (imm_upd s4 (s4 _ _ hws))).snoc ⟨t2, rfl, ?_⟩
        rw [upd_ne nt2l]
        exact upd_same
      · have hk : us.length - 1 - (i + 1) + 1 = us.length - 1 - i := by omega
        obtain ⟨s0, hs0⟩ : ∃ s0, ss[us.length - 1 - (i + 1)]? = some s0 := ⟨_, List.getElem?_eq_getElem (by omega)⟩
        have u7 := (hseg.get hs0 he0).2.2.2.2.2.2 s' (by rw [hk]; exact hs')
        omega
  · obtain ⟨⟨x5, x6, x7, rfl⟩, s3, k3, ws, rs, cur, hws, lws, hWs, hdn, _, hall⟩ := hP
    have ecur := hall rfl
    subst ecur
    refine ⟨_, rfl, (by show 2 ≤ sizeLine; decide), fun tt ntt => ?_⟩
    have s4 := same_new (o := .tup [.ref lr, .non]) ntt
    exact q tt lr ws rs _ _ (s3.trans s4) nlrH upd_same (s4 _ _ hws) (hWs.to (Imm.same s4)) (by omega) (.inl ⟨rfl, hdn⟩)
end
end K18

set_option Elab.async false
set_option linter.all false
set_option maxRecDepth 100000
set_option maxHeartbeats 4000000
namespace K18
open PySem PySem.Spec PyProof.Rows L2 OG
open C8 (pss_cut pe_gc)
open OGX

section
variable {P : Program} {w : World} {K : PySem.W.Frag} {mg : Str → Option Value} {base : Heap}
theorem ok_fig_rows (T : Tops K mg) : FnOk P w K mg base CX0 6 T.ffigures_rows T.dfigures_rows ["powers", "low", "sign"] spFigRowsF := by
  have Gis_endless : FnOk P w K mg base CX0 3 T.fis_endless T.dis_endless ["polynomial", "low", "sign"] spEndlessF := ok_endless T
  have Gruns : FnOk P w K mg base CX0 5 T.fruns T.druns ["polynomial", "low", "high"] spRunsF := ok_runs T
  have Gblock_sign : FnOk P w K mg base CX0 2 T.fblock_sign T.dblock_sign ["powers", "figures"] spBlockF := ok_block T
  refine T.Ffigures_rows.ok (k := 5) scfigures_rows (fun vs H Q E h => ?_) (fun cdv A outer s H vs Q E hr h => ?_)
  · obtain ⟨l, sts, sl, p0, r, B, low, s, rfl, _⟩ := h
    rfl
  obtain ⟨l, sts, sl, p0, r, B, low, s, rfl, hpw, esl, hsl, hld, hB, hB0, hlow, hmay, q⟩ := h
  refine ⟨_, (pss_cons (ps_set (i := 3) scfigures_rows.nd rfl (Or.inl rfl) (pe_ix ix_tup (pe_ix ix_list (pv 0) pe_int (fun _ _ => rfl)) pe_int (fun _ _ => rfl)))
 (pss_cons (ps_set (i := 4) scfigures_rows.nd rfl (Or.inl rfl) (pv 1))
 (pss_cons (ps_while PassesOwn.never (pt_not (pt_val (pe_call Gis_endless (hr.mono (by omega)) (by rfl) T.gis_endless T.Fis_endless.kp T.bis_endless .nil pass0 (pa_cons (pv 3) (pa_cons (pv 4) (pa_cons (pv 2) pa_nil))))))
  (pss_one (ps_aug (i := 4) scfigures_rows.nd rfl (Or.inl rfl) pe_int ip_mul)))
 (pss_cons (ps_set (i := 5) scfigures_rows.nd rfl (Or.inl rfl) (pe_lst (pa_cons (pe_tup (pa_cons pe_str (pa_cons (pv 4) (pa_cons pe_non pa_nil)))) pa_nil)))
 (pss_cons (ps_for PassesOwn.never rfl (pi_reversed (by rfl) T.mreversed (pa_cons (pe_call Gruns (hr.mono (by omega)) (by rfl) T.gruns T.Fruns.kp T.bruns .nil pass0 (pa_cons (pv 3) (pa_cons (pv 1) (pa_cons (pe_op op_sub (pv 4) pe_int) pa_nil)))) pa_nil)) (pg_tup rfl (pgs_cons (pg_name (i := 6) scfigures_rows.nd rfl (Or.inl rfl)) (pgs_cons (pg_name (i := 7) scfigures_rows.nd rfl (Or.inl rfl)) (pgs_cons (pg_name (i := 8) scfigures_rows.nd rfl (Or.inl rfl)) pgs_nil))))
  (pss_one (ps_if (pt_cmpR op_eq (pv 8) (pv 2) (nomark _))
  (pss_one (ps_expr (pe_bm PySem.F.plainAttrs_list PySem.F.slot_list_append PySem.F.type_list_append mt_append (pv 5) (pa_cons (pe_tup (pa_cons pe_str (pa_cons (pv 6) (pa_cons (pv 7) pa_nil)))) pa_nil))))
  (pss_one (ps_for PassesOwn.never rfl (pi_revR (by rfl) T.mreversed (prg_2 (by rfl) T.mrange (pv 6) (pe_op op_add (pv 7) pe_int))) (pg_name (i := 9) scfigures_rows.nd rfl (Or.inl rfl))
  (pss_cons (ps_if (pt_cmpR op_ne (pe_call Gblock_sign (hr.mono (by omega)) (by rfl) T.gblock_sign T.Fblock_sign.kp T.bblock_sign .nil pass0 (pa_cons (pv 0) (pa_cons (pv 9) pa_nil))) (pv 2) (nomark _))
  (pss_one (ps_ret (pe_tup (pa_cons (pv 5) (pa_cons (pv 9) pa_nil)))))
  pss_nil)
 (pss_one (ps_expr (pe_bm PySem.F.plainAttrs_list PySem.F.slot_list_append PySem.F.type_list_append mt_append (pv 5) (pa_cons (pe_tup (pa_cons pe_str (pa_cons (pv 9) (pa_cons (pv 9) pa_nil)))) pa_nil))))))))))
 (pss_one (ps_ret (pe_tup (pa_cons (pv 5) (pa_cons pe_non pa_nil)))))))))), ?_⟩
  obtain ⟨us, hl, lus, hus⟩ := id hpw
  obtain ⟨u0, ur, rfl⟩ : ∃ u0 ur, us = u0 :: ur := by
    cases us with
    | nil => cases lus
    | cons a b => exact ⟨a, b, rfl⟩
  obtain ⟨t0, b0, rfl, ht0, hb0⟩ := hus 0 u0 p0 rfl rfl
  have l1 : 1 ≤ low := Int.le_trans (leastOf_pos sl) hmay.1
  have hN : (2 : Int) ^ (B + 410) ≤ 2 ^ 2410 := pow2_le (by omega)
  have pN : (0 : Int) < 2 ^ (B + 410) := Int.pow_pos (by decide)
  have e15 : (30000 : Int) < 2 ^ 15 := by decide
  have h15 : (2 : Int) ^ 15 ≤ 2 ^ 2410 := pow2_le (by decide)
  have e11 : (2 : Int) ^ 2411 = 2 * 2 ^ 2410 := by rw [Int.pow_succ]; omega
  have e12 : (2 : Int) ^ 2412 = 2 * 2 ^ 2411 := by rw [Int.pow_succ]; omega
  have c12 : ((2 ^ 2412 : Nat) : Int) = 2 ^ 2412 := Int.natCast_pow 2 2412
  have h61 : (2 : Int) ^ 61 = 2305843009213693952 := by decide
  have h62 : (2 : Int) ^ 62 = 4611686018427387904 := by decide
  have lm : (p0.2.length + 1) * (2412 + 1) ≤ 11 * (2412 + 1) := Nat.mul_le_mul_right _ (by have := hld.len; omega)
  have hpok : ∀ x : Int, 0 ≤ x → x < 2 ^ 2412 → POk p0.2 x := fun x h1 h2 => ⟨by have := hld.len; omega, B, 2412, hld.cf, by omega, hB0, by omega⟩
  have allok : ∀ x : Int, 0 ≤ x → x < 2 ^ 2412 → ∀ p ∈ p0 :: r, POk p.2 x := fun x h1 h2 p hp => (hsl.pok (C := 2412) hB0 (by omega) (by omega) p (by rw [esl]; exact hp)).1
  refine ⟨_, rfl, l, _, 0, _, rfl, rfl, SqL.of hl, atI_nat (j := 0) rfl, t0, _, 1, _, rfl, rfl, SqT.of ht0, rfl, ?_⟩
  refine ⟨_, rfl, ?_⟩
  refine ⟨fun m σ H' => ∃ e : Int, m = (2 * 2 ^ (B + 410) + low - e).toNat ∧ (∃ x5 x6 x7 x8 x9, σ = [some (.ref l), some (.int low), some (.int s), some (.ref b0), some (.int e), x5, x6, x7, x8, x9]) ∧ Same H H' ∧ low ≤ e ∧ (e = low ∨ e < 2 * 2 ^ (B + 410)), ⟨_, low, rfl, ⟨_, _, _, _, _, rfl⟩, Same.refl H, Int.le_refl _, .inl rfl⟩, ?_⟩
  rintro m σ H1 ⟨e, rfl, ⟨x5, x6, x7, x8, x9, rfl⟩, s1, hle, hee⟩
  have e11' : e < 2 ^ 2411 := by omega
  refine ⟨_, rfl, _, rfl, _, rfl, b0, p0.2, e, s, rfl, s1 _ _ hb0, by have := hld.len; omega, hpok e (by omega) (by omega), fun i hi => ?_, fun b H2 s2 hb => ?_⟩
  · have := hld.len
    exact hpok _ (by omega) (by omega)
  refine ⟨_, rfl, ?_⟩
  cases b with
  | false =>
    have ne : ¬ EndlessP p0.2 e s := fun z => by cases hb.mpr z
    have eN : e < 2 ^ (B + 410) := Int.not_le.mp fun z => ne (hld.ends e z)
    refine iteT ⟨fun σ' H4 => (∃ x5 x6 x7 x8 x9, σ' = [some (.ref l), some (.int low), some (.int s), some (.ref b0), some (.int (e * 2)), x5, x6, x7, x8, x9]) ∧ Same H H4, fun σ' H4 ⟨g3, g4⟩ => ⟨_, by omega, e * 2, rfl, g3, g4, by omega, .inr (by omega)⟩, ?_⟩
    exact ⟨_, rfl, _, _, rfl, rfl, .inr ⟨by decide, by decide⟩, ⟨_, _, _, _, _, rfl⟩, s1.trans s2⟩
  | true =>
    have hend : EndlessP p0.2 e s := hb.mp rfl
    refine iteF ?_
    have s02 := s1.trans s2
    refine ⟨_, rfl, (by show 3 ≤ sizeLine; decide), fun t1 nt1 => ⟨(by show 1 ≤ sizeLine; decide), fun lr nlr => ?_⟩⟩
    have s3 := same_new (o := .tup [.str "figures", .int e, .non]) nt1
    have s4 := same_new (o := .lst [.ref t1]) nlr
    have s04 := (s02.trans s3).trans s4
    have nlrH := (s02.trans s3).free nlr
    refine ⟨_, rfl, _, rfl, _, rfl, e, 1, rfl, rfl, b0, p0.2, low, e - 1, rfl, s04 _ _ hb0, hld.len, fun z k => difk_pin hld.cf hld.len (C := 2412) (by omega) (by omega) hB0 (by omega) k, fun rb us2 ss H5 s5 nrb hrb hruns => ?_⟩
    have s05 := s04.trans s5
    have hlr5 := s5 _ _ (upd_same : (upd (upd H2 t1 (.tup [.str "figures", .int e, .non])) lr (.lst [.ref t1])) lr = _)
    have nrl : rb ≠ lr := (ne_of_none (upd_same : (upd (upd H2 t1 (.tup [.str "figures", .int e, .non])) lr (.lst [.ref t1])) lr = _) nrb).symm
    have ht1 := (s4.trans s5) _ _ (upd_same : (upd H2 t1 (.tup [.str "figures", .int e, .non])) t1 = _)
    have lus2 : us2.length < 90000 ∧ us2.length ≤ 59049 := by
      rcases hruns with ⟨_, z⟩ | ⟨_, _, z, z2, z3⟩
      · rw [z]
        decide
      · have e310 : (3 : Nat) ^ 10 = 59049 := by decide
        have := hld.len
        have p3 : 3 ^ (p0.2.length - 1 + 1) ≤ 3 ^ 10 := Nat.pow_le_pow_right (by decide) (by omega)
        have := z.1
        omega
    have powS : ∀ x : Int, 1 ≤ x → (x - 1).toNat = x.toNat - 1 := fun x hx => by omega
    refine ⟨rb, us2, rfl, SqL.of hrb, ?_⟩
    refine for_it (walk_rev (xs := us2)) (fun i σ H' => (∃ x6 x7 x8 x9, σ = [some (.ref l), some (.int low), some (.int s), some (.ref b0), some (.int e), some (.ref lr), x6, x7, x8, x9]) ∧ Same H H' ∧ (∀ d u, H5 d = some u → d ≠ lr → H' d = some u) ∧ ∃ (ws : List V) (rs : List WRow) (cur : Int), H' lr = some (.lst ws) ∧ WsAt H' ws rs ∧ ws.length ≤ 1 + 10 * i ∧ Chn sts sl p0.2 s rs cur ∧ (∀ e', i < us2.length → (endsL ss (e - 1))[us2.length - 1 - i]? = some e' → cur = 2 ^ e'.toNat) ∧ (i = us2.length → cur = 2 ^ (low.toNat - 1)))
      ⟨⟨_, _, _, _, rfl⟩, s05, (fun d u e _ => e), _, [⟨"figures", e, none⟩], _, hlr5, ws_one ⟨t1, rfl, ht1⟩, Nat.le_refl _, .one (.endless (hmay.mono hle) hend), fun e' hlt he => ?_, fun z => ?_⟩ (fun i σ H' _ hP => SqL.of (hP.2.2.1 _ _ hrb nrl)) (fun i v σ H3 H3' hi3 hP hY => ?_) (fun σ H3 hP => ?_)
    · obtain ⟨_, hseg, ⟨lu, _⟩, _⟩ := hruns.resolve_left (fun z => by rw [z.2] at hlt; cases hlt)
      obtain ⟨s', hs'⟩ : ∃ s', ss[us2.length - 1 - 0]? = some s' := ⟨_, List.getElem?_eq_getElem (by omega)⟩
      have := (hseg.get hs' he).2.2.2.2.2.1 (by omega)
      rw [this, powS e (by omega)]
    · rcases hruns with ⟨z1, _⟩ | ⟨_, hseg, ⟨lu, _⟩, _⟩
      · rw [show e = low by omega]
      · have : ss = [] := List.eq_nil_of_length_eq_zero (by omega)
        rw [this] at hseg
        exact hseg.elim
    · obtain ⟨⟨x6, x7, x8, x9, rfl⟩, s3', k3, ws, rs, cur, hws, hWs, lws, hch, hcur, _⟩ := hP
      obtain ⟨rfl, hv⟩ := hY
      obtain ⟨_, hseg, ⟨lu, hus2⟩, _⟩ := hruns.resolve_left (fun z => by rw [z.2] at hi3; cases hi3)
      obtain ⟨s', hs'⟩ : ∃ s', ss[us2.length - 1 - i]? = some s' := ⟨_, List.getElem?_eq_getElem (by omega)⟩
      have ssn : ss ≠ [] := fun z => by
        rw [z] at hseg
        exact hseg.elim
      have lE := endsL_len (hi := e - 1) ssn
      obtain ⟨e', he'⟩ : ∃ e', (endsL ss (e - 1))[us2.length - 1 - i]? = some e' := ⟨_, List.getElem?_eq_getElem (by omega)⟩
      obtain ⟨t, rfl, ht⟩ := hus2 _ v s' e' hv hs' he'
      obtain ⟨g1, g2, g3, g4, g5, g6, g7⟩ := hseg.get hs' he'
      have ntl : t ≠ lr := ne_of ht hlr5 (fun z => by cases z)
      have ht3 := k3 _ _ ht ntl
      have ecur := hcur e' hi3 he'
      subst ecur
      have m' := hmay.mono (g := s') g3
      -- what comes behind
      have nextE : ∀ e0, i + 1 < us2.length → (endsL ss (e - 1))[us2.length - 1 - (i + 1)]? = some e0 → (2 : Int) ^ (s'.toNat - 1) = 2 ^ e0.toNat := fun e0 hlt he0 => by
        have hk : us2.length - 1 - (i + 1) + 1 = us2.length - 1 - i := by omega
        obtain ⟨s0, hs0⟩ : ∃ s0, ss[us2.length - 1 - (i + 1)]? = some s0 := ⟨_, List.getElem?_eq_getElem (by omega)⟩
        have u := hseg.get hs0 he0
        have u7 := u.2.2.2.2.2.2 s' (by rw [hk]; exact hs')
        have u2 := u.2.1
        have u3 := u.2.2.1
        rw [show s'.toNat - 1 = e0.toNat by omega]
      have nextL : i + 1 = us2.length → (2 : Int) ^ (s'.toNat - 1) = 2 ^ (low.toNat - 1) := fun z => by rw [g5 (by omega)]
      refine ⟨t, _, rfl, SqT.of ht3, rfl, _, _, rfl, _, _, rfl, _, _, rfl, rfl, ?_⟩
      refine ⟨_, rfl, _, rfl, rfl, _, rfl, ite2 (fun c2 => ?_) (fun c2 => ?_)⟩
      · have eqs : sgX (ev p0.2 s') = s := V.int.inj (of_decide_eq_true c2)
        refine ⟨_, rfl, .inl ⟨rfl, _, SqL.of hws⟩, _, rfl, _, rfl, (by show 3 ≤ sizeLine; decide), fun t2 nt2 => ?_⟩
        have s6 := same_new (o := .tup [.str "figures", .int s', .int e']) nt2
        have nt2l : t2 ≠ lr := (ne_of_none hws nt2).symm
        refine ⟨lr, ws, _, rfl, rfl, s6 _ _ hws, by rw [sizeLine_eq]; omega, ⟨_, _, _, _, rfl⟩, Same.upd_new (s3'.trans s6) nlrH, (fun d u e n => by rw [upd_ne n]; exact s6 _ _ (k3 d u e n)), ws ++ [.ref t2], rs ++ [⟨"figures", s', some e'⟩], _, upd_same, ?_, by rw [List.length_append]; show ws.length + 1 ≤ _; omega, .snoc hch (.figures m' g2 (steady_of g2 g1 eqs)), nextE, nextL⟩
        refine (hWs.to (imm_upd s6 (s6 _ _ hws))).snoc ⟨t2, rfl, ?_⟩
        rw [upd_ne nt2l]
        exact upd_same
      · have nes : sgX (ev p0.2 s') ≠ s := fun z => c2 (decide_eq_true (congrArg V.int z))
        have kp : ∀ x, s' ≤ x → x ≤ e' → sgX (ev p0.2 x) = sgX (ev p0.2 s') := fun x h1 h2 => g1 0 x h1 h2
        have e61 : e' < 2 ^ 61 := Int.not_le.mp fun z => nes (by rw [← kp e' g2 (Int.le_refl _)]; exact hld.root e' z)
        refine ⟨_, rfl, _, rfl, e', 1, rfl, rfl, s', e' + 1, rfl, rfl, by omega, by omega, by omega, by omega, ?_⟩
        have zrun : sgX (ev p0.2 s') = 0 → (e' + 1 - s').toNat ≤ 10 := fun z => by
          have := zero_run (p := p0.2) (a := s') (b := e') ⟨2 ^ (B + 410), fun y => hld.s0 (by
            have := (hld.ends _ (Int.le_refl _)).1
            rw [y] at this
            exact this.symm)⟩ (fun x h1 h2 => sgX_eq_zero.mp ((kp x h1 h2).trans z)) hld.len
          omega
        refine for_it walk_rangeC (fun j σ H' => (∃ x9, σ = [some (.ref l), some (.int low), some (.int s), some (.ref b0), some (.int e), some (.ref lr), some (.int s'), some (.int e'), some (.int (sgX (ev p0.2 s'))), x9]) ∧ Same H H' ∧ (∀ d u, H5 d = some u → d ≠ lr → H' d = some u) ∧ ∃ (ws : List V) (rs : List WRow), H' lr = some (.lst ws) ∧ WsAt H' ws rs ∧ ws.length ≤ 1 + 10 * i + j ∧ Chn sts sl p0.2 s rs (2 ^ (e' - j).toNat) ∧ (0 < j → sgX (ev p0.2 s') = 0))
          ⟨⟨_, rfl⟩, s3', k3, ws, rs, hws, hWs, by omega, by rw [show e' - ((0 : Nat) : Int) = e' by omega]; exact hch, fun z => absurd z (by decide)⟩ (fun _ _ _ _ _ => trivial) (fun j v σ H6 H6' hj hP hY => ?_) (fun σ H6 hP => ?_)
        · obtain ⟨⟨y9, rfl⟩, s6, k6, ws, rs, hws, hWs, lws', hch, hz⟩ := hP
          obtain ⟨rfl, rfl⟩ := hY
          have ep : s' + (((e' + 1 - s').toNat : Nat) : Int) - 1 + ((j : Nat) : Int) * (-1) = e' - j := by omega
          dsimp only
          rw [ep]
          have j10 : j ≤ 10 := by
            rcases Nat.eq_zero_or_pos j with z | z
            · omega
            · have := zrun (hz z)
              omega
          refine ⟨_, rfl, _, rfl, l, p0 :: r, e' - j, rfl, hpw.same s6, allok _ (by omega) (by omega), _, rfl, rfl, _, rfl, ite2 (fun c => ?_) (fun c => ?_)⟩
          · have c' : blockSg sl.2 (e' - j) ≠ s := fun z => by
              have c3 : (!decide (V.int (blockSg (p0 :: r) (e' - j)) = V.int s)) = true := c
              rw [← esl, z, decide_eq_true rfl] at c3
              cases c3
            refine ⟨_, rfl, _, rfl, (by show 2 ≤ sizeLine; decide), fun tt ntt => ?_⟩
            have s7 := same_new (o := .tup [.ref lr, .int (e' - j)]) ntt
            exact q tt lr ws rs _ _ (s6.trans s7) nlrH upd_same (s7 _ _ hws) (hWs.to (Imm.same s7)) (by omega) (.inr ⟨e' - j, rfl, by omega, c', hch⟩)
          · have c' : blockSg sl.2 (e' - j) = s := by
              have c3 : ¬ (!decide (V.int (blockSg (p0 :: r) (e' - j)) = V.int s)) = true := c
              by_cases z : blockSg sl.2 (e' - j) = s
              · exact z
              · rw [← esl, decide_eq_false (fun y => z (V.int.inj y))] at c3
                exact absurd rfl c3
            have f0 : sgX (ev p0.2 s') = 0 := by
              refine Classical.byContradiction fun z => ?_
              have k := kp (e' - j) (by omega) (by omega)
              have nz : ev p0.2 (e' - j) ≠ 0 := fun y => z (by rw [← k, y]; rfl)
              have : blockSg sl.2 (e' - j) = sgX (ev p0.2 (e' - j)) := by
                rw [esl]
                exact if_neg nz
              rw [this, k] at c'
              exact nes c'
            refine ⟨_, rfl, .inl ⟨rfl, _, SqL.of hws⟩, _, rfl, _, rfl, (by show 3 ≤ sizeLine; decide), fun t2 nt2 => ?_⟩
            have s7 := same_new (o := .tup [.str "block", .int (e' - j), .int (e' - j)]) nt2
            have nt2l : t2 ≠ lr := (ne_of_none hws nt2).symm
            have ech : (e' - ((j + 1 : Nat) : Int)).toNat = (e' - (j : Int)).toNat - 1 := by omega
            refine ⟨lr, ws, _, rfl, rfl, s7 _ _ hws, by rw [sizeLine_eq]; omega, ⟨_, rfl⟩, Same.upd_new (s6.trans s7) nlrH, (fun d u e n => by rw [upd_ne n]; exact s7 _ _ (k6 d u e n)), ws ++ [.ref t2], rs ++ [⟨"block", e' - j, some (e' - j)⟩], upd_same, ?_, by rw [List.length_append]; show ws.length + 1 ≤ _; omega, ?_, fun _ => f0⟩
            · refine (hWs.to (imm_upd s7 (s7 _ _ hws))).snoc ⟨t2, rfl, ?_⟩
              rw [upd_ne nt2l]
              exact upd_same
            · rw [ech]
              exact .snoc hch (.block (hmay.mono (by omega)) c')
        · obtain ⟨⟨y9, rfl⟩, s6, k6, ws, rs, hws, hWs, lws', hch, hz⟩ := hP
          have n1 : 0 < (e' + 1 - s').toNat := by omega
          have n10 := zrun (hz n1)
          have ech : (e' - (((e' + 1 - s').toNat : Nat) : Int)).toNat = s'.toNat - 1 := by omega
          rw [ech] at hch
          exact ⟨⟨_, _, _, _, rfl⟩, s6, k6, ws, rs, _, hws, hWs, by omega, hch, nextE, nextL⟩
    · obtain ⟨⟨x6, x7, x8, x9, rfl⟩, s3', k3, ws, rs, cur, hws, hWs, lws, hch, _, hcur⟩ := hP
      have ecur := hcur rfl
      subst ecur
      refine ⟨_, rfl, (by show 2 ≤ sizeLine; decide), fun tt ntt => ?_⟩
      have s7 := same_new (o := .tup [.ref lr, .non]) ntt
      exact q tt lr ws rs _ _ (s3'.trans s7) nlrH upd_same (s7 _ _ hws) (hWs.to (Imm.same s7)) (by omega) (.inl ⟨rfl, hch⟩)
end
end K18

set_option Elab.async false
set_option linter.all false
set_option maxRecDepth 100000
set_option maxHeartbeats 4000000
namespace K18
open PySem PySem.Spec PyProof.Rows L2 OG
open C8 (pss_cut pe_gc)
open OGX

section
variable {P : Program} {w : World} {K : PySem.W.Frag} {mg : Str → Option Value} {base : Heap}
abbrev sM : Stmt := inClass (topS 17) 0
abbrev sF : Stmt := inClass (topS 3) 0
abbrev sR : Stmt := inClass (topS 1) 0
theorem scM : FnScope ["self"] ["self"] (defScope sM) := ⟨rfl, rfl, rfl, by decide +kernel, rfl, by decide +kernel, by decide +kernel⟩
theorem scF : FnScope ["self", "word", "why"] ["self", "word", "why"] (defScope sF) := ⟨rfl, rfl, rfl, by decide +kernel, rfl, by decide +kernel, by decide +kernel⟩
theorem scR : FnScope ["self", "word", "why"] ["self", "word", "why"] (defScope sR) := ⟨rfl, rfl, rfl, by decide +kernel, rfl, by decide +kernel, by decide +kernel⟩
/-- what is known of an exception class of the program -/
structure XC (K : PySem.W.Frag) (C CM CF : Addr) : Prop where
  o : OexC K C
  w : PySem.W.findIn K (.ref C) "word" = some none
  n : PySem.W.findIn K (.ref C) "name" = some none
  x : XfC K C
  e : ExcC K C
  kM : PySem.W.kitOne K (.ref C) (.ref CM) = some false
  kF : PySem.W.kitOne K (.ref C) (.ref CF) = some true
  kV : PySem.W.kitOne K (.ref C) (.type "ValueError") = some true
structure Exx (K : PySem.W.Frag) (mg : Str → Option Value) where
  CM : Addr
  gM : mg "Far" = some (.ref CM)
  CF : Addr
  gF : mg "Unfit" = some (.ref CF)
  CR : Addr
  gR : mg "Refused" = some (.ref CR)
  CMi : Addr
  gMi : mg "Misread" = some (.ref CMi)
  xM : XC K CM CMi CF
  fM : Addr
  dM : FuncData
  FM : FunD K "__init__" "Far.__init__" (defArgs sM) (defBody sM) (defScope sM) [] [] fM dM
  iM : PySem.W.findIn K (.ref CM) "__init__" = some (some (.ref fM))
  tM : PySem.W.typeIn K (.ref fM) = some (.type "function")
  fF : Addr
  dF : FuncData
  FF : FunD K "__init__" "Unfit.__init__" (defArgs sF) (defBody sF) (defScope sF) [.str "Unfit", .str ""] [] fF dF
  vF : PySem.W.findCls K (.ref CF) (.type "type") "__init__" = some (.val (.ref fF))
  cF : ClX.CRead K CF (.type "type")
  fR : Addr
  dR : FuncData
  FR : FunD K "__init__" "Refused.__init__" (defArgs sR) (defBody sR) (defScope sR) [.str "Refused", .str ""] [] fR dR
  vR : PySem.W.findCls K (.ref CR) (.type "type") "__init__" = some (.val (.ref fR))
  cR : ClX.CRead K CR (.type "type")
  mV : mg "ValueError" = none
  vV : PySem.W.findCls K (.type "ValueError") (.type "type") "__init__" = some (.val (.builtin "ValueError.__init__"))
  CBadText : Addr
  gBadText : mg "BadText" = some (.ref CBadText)
  xMBadText : PySem.W.exmOne K (.ref CM) (.ref CBadText) = some false
  CBadPage : Addr
  gBadPage : mg "BadPage" = some (.ref CBadPage)
  xMBadPage : PySem.W.exmOne K (.ref CM) (.ref CBadPage) = some false
  CStopped : Addr
  gStopped : mg "Stopped" = some (.ref CStopped)
  xMStopped : PySem.W.exmOne K (.ref CM) (.ref CStopped) = some false
  CNoName : Addr
  gNoName : mg "NoName" = some (.ref CNoName)
  xMNoName : PySem.W.exmOne K (.ref CM) (.ref CNoName) = some false
  CTwice : Addr
  gTwice : mg "Twice" = some (.ref CTwice)
  xMTwice : PySem.W.exmOne K (.ref CM) (.ref CTwice) = some false
  CNoPlan : Addr
  gNoPlan : mg "NoPlan" = some (.ref CNoPlan)
  xMNoPlan : PySem.W.exmOne K (.ref CM) (.ref CNoPlan) = some false
  CNoLabel : Addr
  gNoLabel : mg "NoLabel" = some (.ref CNoLabel)
  xMNoLabel : PySem.W.exmOne K (.ref CM) (.ref CNoLabel) = some false
  CTaken : Addr
  gTaken : mg "Taken" = some (.ref CTaken)
  xMTaken : PySem.W.exmOne K (.ref CM) (.ref CTaken) = some false
  CRing : Addr
  gRing : mg "Ring" = some (.ref CRing)
  xMRing : PySem.W.exmOne K (.ref CM) (.ref CRing) = some false
  CNotPlain : Addr
  gNotPlain : mg "NotPlain" = some (.ref CNotPlain)
  xMNotPlain : PySem.W.exmOne K (.ref CM) (.ref CNotPlain) = some false
  CTangled : Addr
  gTangled : mg "Tangled" = some (.ref CTangled)
  xMTangled : PySem.W.exmOne K (.ref CM) (.ref CTangled) = some false
  CBreaks : Addr
  gBreaks : mg "Breaks" = some (.ref CBreaks)
  xMBreaks : PySem.W.exmOne K (.ref CM) (.ref CBreaks) = some false
  CInUse : Addr
  gInUse : mg "InUse" = some (.ref CInUse)
  xMInUse : PySem.W.exmOne K (.ref CM) (.ref CInUse) = some false
  CUneven : Addr
  gUneven : mg "Uneven" = some (.ref CUneven)
  xMUneven : PySem.W.exmOne K (.ref CM) (.ref CUneven) = some false
  yMR : PySem.W.exmOne K (.ref CM) (.ref CR) = some true
def spRef (K : PySem.W.Frag) : Sp := fun vs H Q _ => ∃ (a C : Addr) (wd y : Str), vs = [.ref a, .str wd, .str y] ∧ wd.length ≤ 100 ∧ y.length ≤ 100 ∧ H a = some (exo a C none) ∧ OexC K C ∧ PySem.W.findIn K (.ref C) "word" = some none ∧
  ∀ dx, H dx = none → dx ≠ a → Q .non (upd (upd H dx (exd dx [("word", .str wd)])) a (exo a C (some dx)))
def spNm (K : PySem.W.Frag) (wd : Str) : Sp := fun vs H Q _ => ∃ (a C : Addr) (y : Str), vs = [.ref a, .str y] ∧ y.length ≤ 100 ∧ H a = some (exo a C none) ∧ OexC K C ∧ PySem.W.findIn K (.ref C) "word" = some none ∧ PySem.W.findIn K (.ref C) "name" = some none ∧
  ∀ dx, H dx = none → dx ≠ a → Q .non (upd (upd (upd H dx (exd dx [("word", .str wd)])) a (exo a C (some dx))) dx (exd dx [("name", .str y), ("word", .str wd)]))
def spMi (K : PySem.W.Frag) (wd : Str) : Sp := fun vs H Q _ => ∃ (a C : Addr), vs = [.ref a] ∧ H a = some (exo a C none) ∧ OexC K C ∧ PySem.W.findIn K (.ref C) "word" = some none ∧
  ∀ dx, H dx = none → dx ≠ a → Q .non (upd (upd H dx (exd dx [("word", .str wd)])) a (exo a C (some dx)))
theorem Exx.bR (X : Exx K mg) : Binds K X.dR ["self", "word", "why"] [] := by
  obtain ⟨ds, h1, h2⟩ := X.FR.binds1 (ps := ["self", "word", "why"]) 3 2 (by simp) rfl (fun T kV doc pm an cdv ct us its l1 l2 => by
    match us, l1, its, l2 with
    | [_, _, _], _, [_, _], _ => exact ⟨_, rfl, rfl⟩)
  cases h1
  exact h2
theorem Exx.bF (X : Exx K mg) : Binds K X.dF ["self", "word", "why"] [] := by
  obtain ⟨ds, h1, h2⟩ := X.FF.binds1 (ps := ["self", "word", "why"]) 3 2 (by simp) rfl (fun T kV doc pm an cdv ct us its l1 l2 => by
    match us, l1, its, l2 with
    | [_, _, _], _, [_, _], _ => exact ⟨_, rfl, rfl⟩)
  cases h1
  exact h2
theorem Exx.bF2 (X : Exx K mg) : ∃ ds, Vals [V.str ""] ds ∧ Binds K X.dF ["self", "word", "why"] ds :=
  X.FF.binds1 (ps := ["self", "word", "why"]) 2 1 (by simp) rfl (fun T kV doc pm an cdv ct us its l1 l2 => by
    match us, l1, its, l2 with
    | [_, _], _, [_, _], _ => exact ⟨_, rfl, rfl⟩)
theorem Exx.bM (X : Exx K mg) : Binds K X.dM ["self"] [] := X.FM.bindsN fun kV doc pm an cdv ct us hl => match us, hl with | [_], _ => rfl
theorem ok_R (T : Tops K mg) (X : Exx K mg) : FnOk P w K mg base CX0 1 X.fR X.dR ["self", "word", "why"] (spRef K) := by
  refine X.FR.ok scR (fun vs H Q E h => ?_) (fun cdv A outer s H vs Q E hr h => ?_)
  · obtain ⟨a, C, wd, y, rfl, _⟩ := h
    rfl
  obtain ⟨a, C, wd, y, rfl, l1, l2, ha, hO, hW, q⟩ := h
  refine ⟨_, pss_cons (ps_expr (pe_veinit (by rfl) X.mV X.vV (pa_cons (pv 0) (pa_cons (pe_strip (pe_joined (.cons (pe_fmt (pv 1)) (.cons pe_str (.cons (pe_fmt (pv 2)) .nil))))) pa_nil)))) (pss_one (ps_ost (pv 0) (pv 1))), ?_⟩
  have l3 : (" " : Str).length = 1 := by decide +kernel
  have l0 := l_emp
  refine ⟨_, rfl, _, rfl, .inl ⟨wd, rfl, sz (by omega), _, rfl, szs (by rw [l_emp]; omega), _, rfl, szs (by rw [len_app, l_emp, l3]; omega), _, rfl, .inl ⟨y, rfl, sz (by omega), _, rfl, szs (by rw [len_app, len_app, l_emp, l3]; omega), ⟨_, rfl⟩, _, rfl, rfl, sz (by rw [len_app, len_app, len_app, l_emp, l3]; omega), ?_⟩⟩⟩
  refine ⟨a, C, _, rfl, (by show 1 ≤ 1000; decide), hO, ha, ?_⟩
  exact ⟨_, rfl, _, rfl, a, C, rfl, hO, hW, .inl ⟨ha, fun dx n ne => q dx n ne⟩⟩
theorem ok_F (T : Tops K mg) (X : Exx K mg) : FnOk P w K mg base CX0 2 X.fF X.dF ["self", "word", "why"] (spRef K) := by
  have GR : FnOk P w K mg base CX0 1 X.fR X.dR ["self", "word", "why"] (spRef K) := ok_R T X
  refine X.FF.ok scF (fun vs H Q E h => ?_) (fun cdv A outer s H vs Q E hr h => ?_)
  · obtain ⟨a, C, wd, y, rfl, _⟩ := h
    rfl
  obtain ⟨a, C, wd, y, rfl, l1, l2, ha, hO, hW, q⟩ := h
  refine ⟨_, pss_one (ps_expr (pe_cfun GR (hr.mono (by omega)) (by rfl) X.gR X.cR X.vR X.FR.kp X.bR .nil pass0 (pa_cons (pv 0) (pa_cons (pv 1) (pa_cons (pv 2) pa_nil))))), ?_⟩
  exact ⟨_, rfl, _, rfl, _, rfl, a, C, wd, y, rfl, l1, l2, ha, hO, hW, q⟩
theorem ok_M (T : Tops K mg) (X : Exx K mg) : FnOk P w K mg base CX0 3 X.fM X.dM ["self"] (spMi K "Far") := by
  have GF : FnOk P w K mg base CX0 2 X.fF X.dF ["self", "word", "why"] (spRef K) := ok_F T X
  obtain ⟨ds, hds, hb⟩ := X.bF2
  refine X.FM.ok scM (fun vs H Q E h => ?_) (fun cdv A outer s H vs Q E hr h => ?_)
  · obtain ⟨a, C, rfl, _⟩ := h
    rfl
  obtain ⟨a, C, rfl, ha, hO, hW, q⟩ := h
  refine ⟨_, pss_one (ps_expr (pe_cfun GF (hr.mono (by omega)) (by rfl) X.gF X.cF X.vF X.FF.kp hb hds pass0 (pa_cons (pv 0) (pa_cons pe_str pa_nil)))), ?_⟩
  exact ⟨_, rfl, a, C, "Far", "", rfl, by decide +kernel, by decide +kernel, ha, hO, hW, q⟩
end
end K18

set_option Elab.async false
set_option linter.all false
set_option maxRecDepth 100000
set_option maxHeartbeats 4000000
namespace K18
open PySem PySem.Spec PyProof.Rows L2 OG
open C8 (pss_cut pe_gc)
open OGX

section
variable {P : Program} {w : World} {K : PySem.W.Frag} {mg : Str → Option Value} {base : Heap}
theorem exx_mk {K : PySem.W.Frag} {h : Heap} {mg : Str → Option Value} (X : K.In h) (G : h.Ns mainGlobals mg)
    {CM CF CR CMi fM fF fR TF TR : Addr}
    {N0M : Addr} {nmM qM : Str} {bsM bmM subM : List Value} {snM : List Str} {abM : Bool} {colM : Option Bool} {ddM : Option Addr} {m0M m1M m2M m3M m5M : Option Value}
    {ocM kVM dcM pmM cdM ctM : Value} {odM anM : Option Addr} {slM : Array (Option Value)}
    {ocF kVF dcF pmF cdF ctF : Value} {odF anF : Option Addr} {slF : Array (Option Value)}
    {ocR kVR dcR pmR cdR ctR : Value} {odR anR : Option Addr} {slR : Array (Option Value)}
    {dxF : Option Addr} {sxF : Array (Option Value)} {tk1F tk2F : Tok} {nnF : Nat}
    {dxR : Option Addr} {sxR : Array (Option Value)} {tk1R tk2R : Tok} {nnR : Nat}
    {CBadText : Addr}
    {CBadPage : Addr}
    {CStopped : Addr}
    {CNoName : Addr}
    {CTwice : Addr}
    {CNoPlan : Addr}
    {CNoLabel : Addr}
    {CTaken : Addr}
    {CRing : Addr}
    {CNotPlain : Addr}
    {CTangled : Addr}
    {CBreaks : Addr}
    {CInUse : Addr}
    {CUneven : Addr}
    (aM : PySem.W.nsIn K mainGlobals "Far" = some (some (.ref CM)))
    (aF : PySem.W.nsIn K mainGlobals "Unfit" = some (some (.ref CF)))
    (aR : PySem.W.nsIn K mainGlobals "Refused" = some (some (.ref CR)))
    (aMi : PySem.W.nsIn K mainGlobals "Misread" = some (some (.ref CMi)))
    (oc : PySem.W.specialIn K (.builtin "object.__class__") "__get__" = some (some (.builtin "getset_descriptor.__get__")))
    (ot : PySem.W.takesIn K (.builtin "object.__class__") = some true)
    (xM : K.lookup CM = some (excClassObj nmM qM CM N0M bsM bmM true snM subM abM colM ddM m0M m1M m2M m3M m5M "ValueError.__new__"))
    (rM : PySem.HandSPX.refsVE bmM = true)
    (saM : PySem.W.findIn K (.ref CM) "__setattr__" = some (some (.builtin "object.__setattr__")))
    (eM : PySem.W.subIn K (.ref CM) (.type "BaseException") = some true)
    (tM : PySem.W.typeIn K (.ref CM) = some (.type "type"))
    (kM : PySem.W.keepIn K (.ref CM) = true)
    (gaM : PySem.W.findIn K (.ref CM) "__getattribute__" = some (some (.builtin "BaseException.__getattribute__")))
    (ggM : PySem.W.findIn K (.ref CM) "__getattr__" = some none)
    (hdM : PySem.W.hasDictIn K CM = true)
    (gcM : PySem.W.findIn K (.ref CM) "__class__" = some (some (.builtin "object.__class__")))
    (moM : PySem.W.mroIn K CM (.type "object") = some true)
    (wM : PySem.W.findIn K (.ref CM) "word" = some none)
    (nM : PySem.W.findIn K (.ref CM) "name" = some none)
    (iM : PySem.W.findIn K (.ref CM) "__init__" = some (some (.ref fM)))
    (tiM : PySem.W.typeIn K (.ref fM) = some (.type "function"))
    (kmM : PySem.W.kitOne K (.ref CM) (.ref CMi) = some false)
    (kf0M : PySem.W.kitOne K (.ref CM) (.ref CF) = some true)
    (kv0M : PySem.W.kitOne K (.ref CM) (.type "ValueError") = some true)
    (fcF : PySem.W.findCls K (.ref CF) (.type "type") "__init__" = some (.val (.ref fF)))
    (fcR : PySem.W.findCls K (.ref CR) (.type "type") "__init__" = some (.val (.ref fR)))
    (lM : K.lookup fM = some ⟨ocM, odM, .func (PySem.W.fnOf "__init__" "Far.__init__" (defArgs sM) (defBody sM) (defScope sM) .none kVM dcM pmM anM cdM ctM), slM⟩)
    (cM : PySem.W.codeIn K cdM "Far.__init__" = true)
    (kpM : PySem.W.keepIn K (.ref fM) = true)
    (lF : K.lookup fF = some ⟨ocF, odF, .func (PySem.W.fnOf "__init__" "Unfit.__init__" (defArgs sF) (defBody sF) (defScope sF) (.ref TF) kVF dcF pmF anF cdF ctF), slF⟩)
    (cF : PySem.W.codeIn K cdF "Unfit.__init__" = true)
    (kpF : PySem.W.keepIn K (.ref fF) = true)
    (lR : K.lookup fR = some ⟨ocR, odR, .func (PySem.W.fnOf "__init__" "Refused.__init__" (defArgs sR) (defBody sR) (defScope sR) (.ref TR) kVR dcR pmR anR cdR ctR), slR⟩)
    (cR : PySem.W.codeIn K cdR "Refused.__init__" = true)
    (kpR : PySem.W.keepIn K (.ref fR) = true)
    (dtF : K.lookup TF = some ⟨.type "tuple", dxF, .seq #[.str "Unfit" tk1F, .str "" tk2F] nnF, sxF⟩)
    (rdF : PySem.W.readsIn K CF (.type "type") = true)
    (sgF : PySem.W.specialIn K (.ref CF) "__getattribute__" = some (some (.builtin "type.__getattribute__")))
    (dtR : K.lookup TR = some ⟨.type "tuple", dxR, .seq #[.str "Refused" tk1R, .str "" tk2R] nnR, sxR⟩)
    (rdR : PySem.W.readsIn K CR (.type "type") = true)
    (sgR : PySem.W.specialIn K (.ref CR) "__getattribute__" = some (some (.builtin "type.__getattribute__")))
    (zV : PySem.W.nsIn K mainGlobals "ValueError" = some none)
    (ve : PySem.W.findCls K (.type "ValueError") (.type "type") "__init__" = some (.val (.builtin "ValueError.__init__")))
    (aBadText : PySem.W.nsIn K mainGlobals "BadText" = some (some (.ref CBadText)))
    (bBadText : PySem.W.subIn K (.ref CBadText) (.type "BaseException") = some true)
    (hBadText : PySem.W.hasDictIn K CBadText = true)
    (tBadText : PySem.W.typeIn K (.ref CBadText) = some (.type "type"))
    (sMBadText : PySem.W.subIn K (.ref CM) (.ref CBadText) = some false)
    (aBadPage : PySem.W.nsIn K mainGlobals "BadPage" = some (some (.ref CBadPage)))
    (bBadPage : PySem.W.subIn K (.ref CBadPage) (.type "BaseException") = some true)
    (hBadPage : PySem.W.hasDictIn K CBadPage = true)
    (tBadPage : PySem.W.typeIn K (.ref CBadPage) = some (.type "type"))
    (sMBadPage : PySem.W.subIn K (.ref CM) (.ref CBadPage) = some false)
    (aStopped : PySem.W.nsIn K mainGlobals "Stopped" = some (some (.ref CStopped)))
    (bStopped : PySem.W.subIn K (.ref CStopped) (.type "BaseException") = some true)
    (hStopped : PySem.W.hasDictIn K CStopped = true)
    (tStopped : PySem.W.typeIn K (.ref CStopped) = some (.type "type"))
    (sMStopped : PySem.W.subIn K (.ref CM) (.ref CStopped) = some false)
    (aNoName : PySem.W.nsIn K mainGlobals "NoName" = some (some (.ref CNoName)))
    (bNoName : PySem.W.subIn K (.ref CNoName) (.type "BaseException") = some true)
    (hNoName : PySem.W.hasDictIn K CNoName = true)
    (tNoName : PySem.W.typeIn K (.ref CNoName) = some (.type "type"))
    (sMNoName : PySem.W.subIn K (.ref CM) (.ref CNoName) = some false)
    (aTwice : PySem.W.nsIn K mainGlobals "Twice" = some (some (.ref CTwice)))
    (bTwice : PySem.W.subIn K (.ref CTwice) (.type "BaseException") = some true)
    (hTwice : PySem.W.hasDictIn K CTwice = true)
    (tTwice : PySem.W.typeIn K (.ref CTwice) = some (.type "type"))
    (sMTwice : PySem.W.subIn K (.ref CM) (.ref CTwice) = some false)
    (aNoPlan : PySem.W.nsIn K mainGlobals "NoPlan" = some (some (.ref CNoPlan)))
    (bNoPlan : PySem.W.subIn K (.ref CNoPlan) (.type "BaseException") = some true)
    (hNoPlan : PySem.W.hasDictIn K CNoPlan = true)
    (tNoPlan : PySem.W.typeIn K (.ref CNoPlan) = some (.type "type"))
    (sMNoPlan : PySem.W.subIn K (.ref CM) (.ref CNoPlan) = some false)
    (aNoLabel : PySem.W.nsIn K mainGlobals "NoLabel" = some (some (.ref CNoLabel)))
    (bNoLabel : PySem.W.subIn K (.ref CNoLabel) (.type "BaseException") = some true)
    (hNoLabel : PySem.W.hasDictIn K CNoLabel = true)
    (tNoLabel : PySem.W.typeIn K (.ref CNoLabel) = some (.type "type"))
    (sMNoLabel : PySem.W.subIn K (.ref CM) (.ref CNoLabel) = some false)
    (aTaken : PySem.W.nsIn K mainGlobals "Taken" = some (some (.ref CTaken)))
    (bTaken : PySem.W.subIn K (.ref CTaken) (.type "BaseException") = some true)
    (hTaken : PySem.W.hasDictIn K CTaken = true)
    (tTaken : PySem.W.typeIn K (.ref CTaken) = some (.type "type"))
    (sMTaken : PySem.W.subIn K (.ref CM) (.ref CTaken) = some false)
    (aRing : PySem.W.nsIn K mainGlobals "Ring" = some (some (.ref CRing)))
    (bRing : PySem.W.subIn K (.ref CRing) (.type "BaseException") = some true)
    (hRing : PySem.W.hasDictIn K CRing = true)
    (tRing : PySem.W.typeIn K (.ref CRing) = some (.type "type"))
    (sMRing : PySem.W.subIn K (.ref CM) (.ref CRing) = some false)
    (aNotPlain : PySem.W.nsIn K mainGlobals "NotPlain" = some (some (.ref CNotPlain)))
    (bNotPlain : PySem.W.subIn K (.ref CNotPlain) (.type "BaseException") = some true)
    (hNotPlain : PySem.W.hasDictIn K CNotPlain = true)
    (tNotPlain : PySem.W.typeIn K (.ref CNotPlain) = some (.type "type"))
    (sMNotPlain : PySem.W.subIn K (.ref CM) (.ref CNotPlain) = some false)
    (aTangled : PySem.W.nsIn K mainGlobals "Tangled" = some (some (.ref CTangled)))
    (bTangled : PySem.W.subIn K (.ref CTangled) (.type "BaseException") = some true)
    (hTangled : PySem.W.hasDictIn K CTangled = true)
    (tTangled : PySem.W.typeIn K (.ref CTangled) = some (.type "type"))
    (sMTangled : PySem.W.subIn K (.ref CM) (.ref CTangled) = some false)
    (aBreaks : PySem.W.nsIn K mainGlobals "Breaks" = some (some (.ref CBreaks)))
    (bBreaks : PySem.W.subIn K (.ref CBreaks) (.type "BaseException") = some true)
    (hBreaks : PySem.W.hasDictIn K CBreaks = true)
    (tBreaks : PySem.W.typeIn K (.ref CBreaks) = some (.type "type"))
    (sMBreaks : PySem.W.subIn K (.ref CM) (.ref CBreaks) = some false)
    (aInUse : PySem.W.nsIn K mainGlobals "InUse" = some (some (.ref CInUse)))
    (bInUse : PySem.W.subIn K (.ref CInUse) (.type "BaseException") = some true)
    (hInUse : PySem.W.hasDictIn K CInUse = true)
    (tInUse : PySem.W.typeIn K (.ref CInUse) = some (.type "type"))
    (sMInUse : PySem.W.subIn K (.ref CM) (.ref CInUse) = some false)
    (aUneven : PySem.W.nsIn K mainGlobals "Uneven" = some (some (.ref CUneven)))
    (bUneven : PySem.W.subIn K (.ref CUneven) (.type "BaseException") = some true)
    (hUneven : PySem.W.hasDictIn K CUneven = true)
    (tUneven : PySem.W.typeIn K (.ref CUneven) = some (.type "type"))
    (sMUneven : PySem.W.subIn K (.ref CM) (.ref CUneven) = some false)
    (uMR : PySem.W.subIn K (.ref CM) (.ref CR) = some true)
    (bR0 : PySem.W.subIn K (.ref CR) (.type "BaseException") = some true)
    (hR0 : PySem.W.hasDictIn K CR = true)
    (tR0 : PySem.W.typeIn K (.ref CR) = some (.type "type")) : Nonempty (Exx K mg) :=
  ⟨{ CM := CM, gM := PySem.W.mg_of X G aM, CF := CF, gF := PySem.W.mg_of X G aF, CR := CR, gR := PySem.W.mg_of X G aR, CMi := CMi, gMi := PySem.W.mg_of X G aMi, xM := ⟨⟨⟨_, _, _, _, _, _, _, _, _, _, _, _, _, _, _, xM, rM⟩, saM, eM, tM, kM⟩, wM, nM, ⟨gaM, ggM, eM, hdM⟩, ⟨gaM, ggM, eM, hdM, gcM, oc, ot, moM⟩, kmM, kf0M, kv0M⟩, fM := fM, dM := _, FM := ⟨⟨_, _, _, _, _, _, _, _, _, _, rfl, lM, cM, .inl ⟨rfl, rfl⟩, .inl rfl⟩, kpM⟩, iM := iM, tM := tiM, fF := fF, dF := _, FF := ⟨⟨_, _, _, _, _, _, _, _, _, _, rfl, lF, cF, .inr ⟨by simp, _, _, _, _, rfl, dtF, rfl, .cons ⟨_, rfl⟩ (.cons ⟨_, rfl⟩ .nil)⟩, .inl rfl⟩, kpF⟩, vF := fcF, cF := ⟨rdF, sgF⟩, fR := fR, dR := _, FR := ⟨⟨_, _, _, _, _, _, _, _, _, _, rfl, lR, cR, .inr ⟨by simp, _, _, _, _, rfl, dtR, rfl, .cons ⟨_, rfl⟩ (.cons ⟨_, rfl⟩ .nil)⟩, .inl rfl⟩, kpR⟩, vR := fcR, cR := ⟨rdR, sgR⟩, mV := PySem.W.mg_none_of X G zV, vV := ve, CBadText := CBadText, gBadText := PySem.W.mg_of X G aBadText, xMBadText := PySem.W.exm_ref bBadText hBadText tBadText sMBadText, CBadPage := CBadPage, gBadPage := PySem.W.mg_of X G aBadPage, xMBadPage := PySem.W.exm_ref bBadPage hBadPage tBadPage sMBadPage, CStopped := CStopped, gStopped := PySem.W.mg_of X G aStopped, xMStopped := PySem.W.exm_ref bStopped hStopped tStopped sMStopped, CNoName := CNoName, gNoName := PySem.W.mg_of X G aNoName, xMNoName := PySem.W.exm_ref bNoName hNoName tNoName sMNoName, CTwice := CTwice, gTwice := PySem.W.mg_of X G aTwice, xMTwice := PySem.W.exm_ref bTwice hTwice tTwice sMTwice, CNoPlan := CNoPlan, gNoPlan := PySem.W.mg_of X G aNoPlan, xMNoPlan := PySem.W.exm_ref bNoPlan hNoPlan tNoPlan sMNoPlan, CNoLabel := CNoLabel, gNoLabel := PySem.W.mg_of X G aNoLabel, xMNoLabel := PySem.W.exm_ref bNoLabel hNoLabel tNoLabel sMNoLabel, CTaken := CTaken, gTaken := PySem.W.mg_of X G aTaken, xMTaken := PySem.W.exm_ref bTaken hTaken tTaken sMTaken, CRing := CRing, gRing := PySem.W.mg_of X G aRing, xMRing := PySem.W.exm_ref bRing hRing tRing sMRing, CNotPlain := CNotPlain, gNotPlain := PySem.W.mg_of X G aNotPlain, xMNotPlain := PySem.W.exm_ref bNotPlain hNotPlain tNotPlain sMNotPlain, CTangled := CTangled, gTangled := PySem.W.mg_of X G aTangled, xMTangled := PySem.W.exm_ref bTangled hTangled tTangled sMTangled, CBreaks := CBreaks, gBreaks := PySem.W.mg_of X G aBreaks, xMBreaks := PySem.W.exm_ref bBreaks hBreaks tBreaks sMBreaks, CInUse := CInUse, gInUse := PySem.W.mg_of X G aInUse, xMInUse := PySem.W.exm_ref bInUse hInUse tInUse sMInUse, CUneven := CUneven, gUneven := PySem.W.mg_of X G aUneven, xMUneven := PySem.W.exm_ref bUneven hUneven tUneven sMUneven, yMR := PySem.W.exm_ref bR0 hR0 tR0 uMR }⟩
theorem codeHd_of {K : PySem.W.Frag} {h : Heap} (X : K.In h) {c P : Addr} {dd : Option Addr} {vs : Array Value} {sl : Array (Option Value)} (l : K.lookup c = some ⟨.type "code", dd, .fields vs, sl⟩) (h11 : vs[11]? = some (.ref P)) (g11 : vs.getD 11 .none = .ref P)
    {fl : Str} {tf tg tt : Tok} {flags tx : Int} {inF : Bool} (h18 : vs.getD 18 .none = .str fl tf) (h7 : vs.getD 7 .none = .int flags tg) (h9 : vs.getD 9 .none = .bool inF) (h10 : vs.getD 10 .none = .int tx tt) (ne : c ≠ P) : PySem.W.CodeHd h c P :=
  ⟨_, vs, fl, tf, flags, tg, inF, tx, tt, X _ _ l, rfl, rfl, h11, g11, h18, h7, h9, h10, ne⟩
end
end K18

set_option Elab.async false
set_option linter.all false
set_option maxRecDepth 100000
set_option maxHeartbeats 4000000
namespace K18
open PySem PySem.Spec PyProof.Rows L2 OG
open C8 (pss_cut pe_gc)
open OGX

section
variable {P : Program} {w : World} {K : PySem.W.Frag} {mg : Str → Option Value} {base : Heap}
theorem end_mi {C : Addr} {wd : Str} {H H3 : Hp} {E : XK} {a dx : Addr} (h : ∀ dd H', Same H H' → H dd = none → H' dd = some (.xd [("word", .str wd)]) → E (.ref C) (some dd) H') (s : Same H H3) (na : H3 a = none) (n : (upd H3 a (exo a C none)) dx = none) (ne : dx ≠ a) :
    V.non = V.non ∧ ∃ (d : Addr) (fs : List (Str × V)), (upd (upd (upd H3 a (exo a C none)) dx (exd dx [("word", .str wd)])) a (exo a C (some dx))) a = some (exo a C (some d)) ∧
      (upd (upd (upd H3 a (exo a C none)) dx (exd dx [("word", .str wd)])) a (exo a C (some dx))) d = some (exd d fs) ∧ H3 d = none ∧
      E (.ref C) (some d) (upd (del (upd (upd (upd H3 a (exo a C none)) dx (exd dx [("word", .str wd)])) a (exo a C (some dx))) a) d (.xd fs)) := by
  have n3 : H3 dx = none := by rw [upd_ne ne] at n; exact n
  refine ⟨rfl, dx, _, upd_same, by rw [upd_ne ne]; exact upd_same, n3, h dx _ (fun y u hy => ?_) (s.free n3) upd_same⟩
  have h3 := s _ _ hy
  have na2 := ne_of_none h3 na
  have nd2 := ne_of_none h3 n3
  rw [upd_ne nd2, del_ne na2, upd_ne na2, upd_ne nd2, upd_ne na2]
  exact h3
def spNearX (C : Addr) : Sp := fun vs H Q E => ∃ f : Int, vs = [.int f] ∧ (f ≤ 2000 → Q .non H) ∧ (2000 < f → ∀ dd H', Same H H' → H dd = none → H' dd = some (.xd [("word", .str "Far")]) → E (.ref C) (some dd) H')
theorem ok_near (T : Tops K mg) (X : Exx K mg) : FnOk P w K mg base (L2.CX P w) 5 T.fcheck_near T.dcheck_near ["figures"] (spNearX X.CM) := by
  have GM : FnOk P w K mg base CX0 3 X.fM X.dM ["self"] (spMi K "Far") := ok_M T X
  refine T.Fcheck_near.okX (k := 4) sccheck_near (fun vs H Q E h => ?_) (fun cdv A outer s H vs Q E hr h => ?_)
  · obtain ⟨f, rfl, _⟩ := h
    rfl
  obtain ⟨f, rfl, q1, q2⟩ := h
  refine ⟨_, (pss_one (ps_if (pt_cmpR op_gt (pv 0) (pe_gc (by rfl) T.cMOST_SIZE_FIGURES) (nomark _))
  (pss_one (ps_raise rfl (takes_of rfl rfl rfl rfl) (pmk_oex0 X.xM.o X.iM X.tM GM (hr.mono (by omega)) X.bM pass0 (by rfl) X.gM)))
  pss_nil)), ?_⟩
  refine ⟨_, rfl, f, 2000, rfl, rfl, _, rfl, ite2 (fun c => ?_) (fun c => ?_)⟩
  · have c2 : (2000 : Int) < f := of_decide_eq_true c
    exact fun a' na => ⟨a', X.CM, rfl, upd_same, X.xM.o, X.xM.w, fun dx n ne => end_mi (q2 c2) (Same.refl H) na n ne⟩
  · exact q1 (by have : ¬ (2000 : Int) < f := fun z => c (decide_eq_true z); omega)
end
end K18

set_option Elab.async false
set_option linter.all false
set_option maxRecDepth 100000
set_option maxHeartbeats 4000000
namespace K18
open PySem PySem.Spec PyProof.Rows L2 OG
open C8 (pss_cut pe_gc)
open OGX

section
variable {P : Program} {w : World} {K : PySem.W.Frag} {mg : Str → Option Value} {base : Heap}
theorem ok_l_gcd (T : Tops K mg) : FnOk P w K mg base CX0 1 T.fl_gcd T.dl_gcd ["_law_a", "_law_b"] spGcd := by
  refine T.Fl_gcd.ok (k := 0) scl_gcd (fun vs H Q E h => ?_) (fun cdv A outer s H vs Q E hr h => ?_)
  · obtain ⟨a, b, rfl, _⟩ := h
    rfl
  obtain ⟨a, b, rfl, q⟩ := h
  refine ⟨_, (pss_cons (ps_par (i := 0) (j := 1) (by rfl) scl_gcd.nd rfl rfl (by decide) rfl rfl (pa_cons (pe_callB call_abs (by rfl) T.mabs (by decide +kernel) (pa_cons (pv 0) pa_nil)) (pa_cons (pe_callB call_abs (by rfl) T.mabs (by decide +kernel) (pa_cons (pv 1) pa_nil)) pa_nil)) (by rfl))
 (pss_cons (ps_while PassesOwn.never (pt_cmpR op_gt (pv 1) pe_int (nomark _))
  (pss_one (ps_par (i := 0) (j := 1) (by rfl) scl_gcd.nd rfl rfl (by decide) rfl rfl (pa_cons (pv 1) (pa_cons (pe_op op_mod (pv 0) (pv 1)) pa_nil)) (by rfl))))
 (pss_one (ps_ret (pv 0))))), ?_⟩
  refine ⟨_, rfl, a, rfl, _, rfl, b, rfl, _, _, rfl, ?_⟩
  have ab : ∀ x : Int, (if x < 0 then -x else x) = ((x.natAbs : Nat) : Int) := fun x => by split <;> omega
  rw [ab a, ab b]
  refine ⟨fun m σ H' => H' = H ∧ ∃ x y : Nat, σ = [some (.int x), some (.int y)] ∧ Nat.gcd x y = Nat.gcd a.natAbs b.natAbs ∧ y = m, ⟨_, rfl, _, _, rfl, rfl, rfl⟩, ?_⟩
  rintro m σ H' ⟨rfl, x, y, rfl, hg, rfl⟩
  refine ⟨_, rfl, _, 0, rfl, rfl, _, rfl, ite2 (fun c => ?_) (fun c => ?_)⟩
  · have hy : (0 : Int) < (y : Int) := of_decide_eq_true c
    refine ⟨fun σ' H2 => H2 = H' ∧ σ' = [some (.int y), some (.int ((x % y : Nat) : Int))], ?_, ?_⟩
    · rintro σ2 H2 ⟨rfl, rfl⟩
      refine ⟨x % y, Nat.mod_lt _ (by omega), rfl, y, x % y, rfl, ?_, rfl⟩
      rw [Nat.gcd_comm y (x % y), ← Nat.gcd_rec, Nat.gcd_comm]
      exact hg
    · exact ⟨_, rfl, _, rfl, _, rfl, _, _, rfl, rfl, hy, _, _, rfl, rfl, rfl⟩
  · have hy : y = 0 := by
      have : ¬ (0 : Int) < (y : Int) := fun z => c (decide_eq_true z)
      omega
    subst hy
    rw [Nat.gcd_zero_right] at hg
    refine ⟨_, rfl, ?_⟩
    rw [hg]
    exact q
theorem gcd_big {o u : Int} (h1 : 1 ≤ u) (h2 : u.natAbs < 2 ^ 8000) {i : Int} : CDivW i ((Int.gcd o u : Nat) : Int) := by
  have hp : 0 < Int.gcd o u := Int.gcd_pos_of_ne_zero_right _ (by omega)
  have hle : Int.gcd o u ≤ u.natAbs := Nat.le_of_dvd (by omega) (Nat.gcd_dvd_right o.natAbs u.natAbs)
  exact wide_div (b := 8000) (Int.ofNat_lt.mpr hp) (Nat.lt_of_le_of_lt hle h2) (by decide) (by decide)
theorem ok_l_lowest (T : Tops K mg) : FnOk P w K mg base CX0 2 T.fl_lowest T.dl_lowest ["_law_over", "_law_under"] spLowest := by
  have Gl_gcd : FnOk P w K mg base CX0 1 T.fl_gcd T.dl_gcd ["_law_a", "_law_b"] spGcd := ok_l_gcd T
  refine T.Fl_lowest.ok (k := 1) scl_lowest (fun vs H Q E h => ?_) (fun cdv A outer s H vs Q E hr h => ?_)
  · obtain ⟨o, u, rfl, _⟩ := h
    rfl
  obtain ⟨o, u, rfl, h1, h2, q⟩ := h
  refine ⟨_, (pss_cons (ps_set (i := 2) scl_lowest.nd rfl (Or.inl rfl) (pe_call Gl_gcd (hr.mono (by omega)) (by rfl) T.gl_gcd T.Fl_gcd.kp T.bl_gcd .nil pass0 (pa_cons (pv 0) (pa_cons (pv 1) pa_nil))))
 (pss_one (ps_ret (pe_tup (pa_cons (pe_op op_fdivW (pv 0) (pv 2)) (pa_cons (pe_op op_fdivW (pv 1) (pv 2)) pa_nil)))))), ?_⟩
  refine ⟨_, rfl, _, rfl, o, u, rfl, ?_⟩
  refine ⟨_, rfl, _, rfl, _, _, rfl, rfl, gcd_big h1 h2, _, rfl, _, rfl, _, _, rfl, rfl, gcd_big h1 h2, (by show 2 ≤ sizeLine; decide), fun t nt => ?_⟩
  exact q _ _ (same_new nt) (rp_tup upd_same (rpl_cons rfl (rpl_cons rfl rpl_nil)))
end
end K18

set_option Elab.async false
set_option linter.all false
set_option maxRecDepth 100000
set_option maxHeartbeats 4000000
namespace K18
open PySem PySem.Spec PyProof.Rows L2 OG
open C8 (pss_cut pe_gc)
open OGX

section
variable {P : Program} {w : World} {K : PySem.W.Frag} {mg : Str → Option Value} {base : Heap}
theorem ok_greatest_divisor (T : Tops K mg) : FnOk P w K mg base CX0 1 T.fgreatest_divisor T.dgreatest_divisor ["one", "other"] spGreatest := by
  refine T.Fgreatest_divisor.ok (k := 0) scgreatest_divisor (fun vs H Q E h => ?_) (fun cdv A outer s H vs Q E hr h => ?_)
  · obtain ⟨a, b, rfl, _⟩ := h
    rfl
  obtain ⟨a, b, rfl, hb, q⟩ := h
  refine ⟨_, (pss_cons (ps_while PassesOwn.never (pt_cmpR op_ne (pv 1) pe_int (nomark _))
  (pss_one (ps_par (i := 0) (j := 1) (by rfl) scgreatest_divisor.nd rfl rfl (by decide) rfl rfl (pa_cons (pv 1) (pa_cons (pe_op op_mod (pv 0) (pv 1)) pa_nil)) (by rfl))))
 (pss_one (ps_ret (pe_callB call_abs (by rfl) T.mabs (by decide +kernel) (pa_cons (pv 0) pa_nil))))), ?_⟩
  refine ⟨fun m σ H' => H' = H ∧ ∃ x y : Int, σ = [some (.int x), some (.int y)] ∧ 0 ≤ y ∧ Int.gcd x y = Int.gcd a b ∧ y.toNat = m, ⟨_, rfl, a, b, rfl, hb, rfl, rfl⟩, ?_⟩
  rintro m σ H' ⟨rfl, x, y, rfl, hy, hg, rfl⟩
  refine ⟨_, rfl, rfl, _, rfl, ite2 (fun c => ?_) (fun c => ?_)⟩
  · have hy0 : y ≠ 0 := fun z => by
      rw [z] at c
      exact absurd c (by decide)
    have hpos : 0 < y := by omega
    refine ⟨fun σ' H2 => H2 = H' ∧ σ' = [some (.int y), some (.int (x % y))], ?_, ?_⟩
    · rintro σ2 H2 ⟨rfl, rfl⟩
      have h1 := Int.emod_nonneg x hy0
      have h2 := Int.emod_lt_of_pos x hpos
      exact ⟨(x % y).toNat, by omega, rfl, y, x % y, rfl, h1, by rw [gcd_mod]; exact hg, rfl⟩
    · exact ⟨_, rfl, _, rfl, _, rfl, _, _, rfl, rfl, hpos, _, _, rfl, rfl, rfl⟩
  · have hy0 : y = 0 := by
      by_cases z : y = 0
      · exact z
      · refine absurd ?_ c
        show (!decide (V.int y = V.int 0)) = true
        rw [decide_eq_false fun e => z (V.int.inj e)]
        rfl
    subst hy0
    rw [Int.gcd_zero_right] at hg
    refine ⟨_, rfl, x, rfl, ?_⟩
    have ab : (if x < 0 then -x else x) = ((x.natAbs : Nat) : Int) := by split <;> omega
    rw [ab, hg]
    exact q
theorem ok_part_of (T : Tops K mg) : FnOk P w K mg base CX0 2 T.fpart_of T.dpart_of ["over", "under"] spPartOf := by
  have Ggreatest_divisor : FnOk P w K mg base CX0 1 T.fgreatest_divisor T.dgreatest_divisor ["one", "other"] spGreatest := ok_greatest_divisor T
  refine T.Fpart_of.ok (k := 1) scpart_of (fun vs H Q E h => ?_) (fun cdv A outer s H vs Q E hr h => ?_)
  · obtain ⟨o, u, rfl, _⟩ := h
    rfl
  obtain ⟨o, u, rfl, h1, h2, q⟩ := h
  refine ⟨_, (pss_cons (ps_set (i := 2) scpart_of.nd rfl (Or.inl rfl) (pe_call Ggreatest_divisor (hr.mono (by omega)) (by rfl) T.ggreatest_divisor T.Fgreatest_divisor.kp T.bgreatest_divisor .nil pass0 (pa_cons (pv 0) (pa_cons (pv 1) pa_nil))))
 (pss_one (ps_ret (pe_tup (pa_cons (pe_op op_fdivW (pv 0) (pv 2)) (pa_cons (pe_op op_fdivW (pv 1) (pv 2)) pa_nil)))))), ?_⟩
  refine ⟨_, rfl, _, rfl, o, u, rfl, by omega, ?_⟩
  refine ⟨_, rfl, _, rfl, _, _, rfl, rfl, gcd_big h1 h2, _, rfl, _, rfl, _, _, rfl, rfl, gcd_big h1 h2, (by show 2 ≤ sizeLine; decide), fun t nt => ?_⟩
  exact q _ _ (same_new nt) (rp_tup upd_same (rpl_cons rfl (rpl_cons rfl rpl_nil)))
theorem ok_part_sum (T : Tops K mg) : FnOk P w K mg base CX0 3 T.fpart_sum T.dpart_sum ["one", "other"] (spPartSum K) := by
  have Gpart_of : FnOk P w K mg base CX0 2 T.fpart_of T.dpart_of ["over", "under"] spPartOf := ok_part_of T
  refine T.Fpart_sum.ok (k := 2) scpart_sum (fun vs H Q E h => ?_) (fun cdv A outer s H vs Q E hr h => ?_)
  · obtain ⟨u, v, o, p, rfl, _⟩ := h
    rfl
  obtain ⟨u, v, o, p, rfl, ⟨a, rfl, ha⟩, ⟨b, rfl, hb⟩, o1, o2, p1, p2, q⟩ := h
  refine ⟨_, (pss_one (ps_ret (pe_call Gpart_of (hr.mono (by omega)) (by rfl) T.gpart_of T.Fpart_of.kp T.bpart_of .nil pass0 (pa_cons (pe_op op_add (pe_op op_mul (pe_ix ix_tup (pv 0) pe_int (fun _ _ => rfl)) (pe_ix ix_tup (pv 1) pe_int (fun _ _ => rfl))) (pe_op op_mul (pe_ix ix_tup (pv 1) pe_int (fun _ _ => rfl)) (pe_ix ix_tup (pv 0) pe_int (fun _ _ => rfl)))) (pa_cons (pe_op op_mul (pe_ix ix_tup (pv 0) pe_int (fun _ _ => rfl)) (pe_ix ix_tup (pv 1) pe_int (fun _ _ => rfl))) pa_nil))))), ?_⟩
  refine ⟨_, rfl, a, _, 0, _, rfl, rfl, ha, rfl, _, rfl, b, _, 1, _, rfl, rfl, hb, rfl, _, _, rfl, rfl, .inr ⟨by omega, by omega⟩, ?_⟩
  refine ⟨_, rfl, b, _, 0, _, rfl, rfl, hb, rfl, _, rfl, a, _, 1, _, rfl, rfl, ha, rfl, _, _, rfl, rfl, .inr ⟨by omega, by omega⟩, ?_⟩
  refine ⟨_, _, rfl, rfl, ?_⟩
  refine ⟨_, rfl, a, _, 1, _, rfl, rfl, ha, rfl, _, rfl, b, _, 1, _, rfl, rfl, hb, rfl, _, _, rfl, rfl, .inr ⟨by omega, by omega⟩, ?_⟩
  have hp : 0 < o.2 * p.2 := Int.mul_pos (by omega) (by omega)
  refine ⟨_, _, rfl, by omega, ?_, fun w' H' s' hR => q w' H' s' hR⟩
  have h1 : (o.2 * p.2).natAbs < 2 ^ (20 + 20) := wide_lt (by omega) (by omega)
  exact Nat.lt_of_lt_of_le h1 (Nat.pow_le_pow_right (by decide) (by decide))
theorem ok_row_at (T : Tops K mg) : FnOk P w K mg base CX0 1 T.frow_at T.drow_at ["rows", "size"] spRowAt := by
  refine T.Frow_at.ok (k := 0) scrow_at (fun vs H Q E h => ?_) (fun cdv A outer s H vs Q E hr h => ?_)
  · obtain ⟨S, rs, ls, n, rfl, _⟩ := h
    rfl
  obtain ⟨S, rs, ls, n, rfl, ⟨us, hS, hR⟩, hok, hn, q⟩ := h
  refine ⟨_, (pss_cons (ps_set (i := 2) scrow_at.nd rfl (Or.inl rfl) pe_int)
 (pss_cons (ps_set (i := 3) scrow_at.nd rfl (Or.inl rfl) (pe_callB call_len_seq (by rfl) T.mlen PySem.boot_len (pa_cons (pv 0) pa_nil)))
 (pss_cons (ps_while PassesOwn.never (pt_cmpR op_gt (pe_op op_sub (pv 3) (pv 2)) pe_int (nomark _))
  (pss_cons (ps_set (i := 4) scrow_at.nd rfl (Or.inl rfl) (pe_op op_fdiv (pe_op op_add (pv 2) (pv 3)) pe_int))
 (pss_one (ps_if (pt_cmpR op_le (pe_ix ix_tup (pe_ix ix_list (pv 0) (pv 4) (fun _ _ => rfl)) pe_int (fun _ _ => rfl)) (pv 1) (nomark _))
  (pss_one (ps_set (i := 2) scrow_at.nd rfl (Or.inl rfl) (pv 4)))
  (pss_one (ps_set (i := 3) scrow_at.nd rfl (Or.inl rfl) (pv 4)))))))
 (pss_one (ps_ret (pv 2)))))), ?_⟩
  have lu := hR.len.1
  have l8 := hok.short
  have pos := hok.pos hn
  have le := rowIx_le rs n
  refine ⟨_, rfl, S, us, rfl, .inl (SqL.of hS), ?_⟩
  refine ⟨fun m σ H' => H' = H ∧ ∃ (lo hi : Nat) (x4 : Option V), σ = [some (.ref S), some (.int n), some (.int lo), some (.int hi), x4] ∧ lo < rowIx rs n ∧ rowIx rs n ≤ hi ∧ hi ≤ rs.length ∧ hi - lo = m, ⟨_, rfl, 0, us.length, none, rfl, pos, by omega, by omega, rfl⟩, ?_⟩
  rintro m σ H' ⟨rfl, lo, hi, x4, rfl, h1, h2, h3, rfl⟩
  refine ⟨_, rfl, _, rfl, _, _, rfl, rfl, _, 1, rfl, rfl, _, rfl, ite2 (fun c => ?_) (fun c => ?_)⟩
  · have c1 : (1 : Int) < (hi : Int) - (lo : Int) := of_decide_eq_true c
    refine ⟨fun σ' H2 => H2 = H' ∧ ∃ (lo2 hi2 : Nat) (x4 : Option V), σ' = [some (.ref S), some (.int n), some (.int lo2), some (.int hi2), x4] ∧ lo2 < rowIx rs n ∧ rowIx rs n ≤ hi2 ∧ hi2 ≤ rs.length ∧ hi2 - lo2 < hi - lo, ?_, ?_⟩
    · rintro σ2 H2 ⟨rfl, lo2, hi2, y4, rfl, a1, a2, a3, a4⟩
      exact ⟨_, a4, rfl, lo2, hi2, y4, rfl, a1, a2, a3, rfl⟩
    · refine ⟨_, rfl, _, rfl, _, _, rfl, rfl, _, 2, rfl, rfl, ⟨by decide, by decide⟩, ?_⟩
      have em : ((lo : Int) + (hi : Int)) / 2 = (((lo + hi) / 2 : Nat) : Int) := by omega
      have hmid : (lo + hi) / 2 < us.length := by omega
      have hu : us[(lo + hi) / 2]? = some us[(lo + hi) / 2] := List.getElem?_eq_getElem hmid
      obtain ⟨r, l, hr1, _, hRr⟩ := hR.get hu
      obtain ⟨b, eb, hb, _⟩ := hRr
      have hix : atI us (((lo : Int) + (hi : Int)) / 2) = some (.ref b) := by rw [em, OG.atI_get hu, eb]
      refine ⟨_, rfl, _, rfl, S, us, _, _, rfl, rfl, SqL.of hS, hix, b, _, 0, _, rfl, rfl, SqT.of hb, rfl, _, rfl, _, _, rfl, rfl, _, rfl, ite2 (fun c2 => ?_) (fun c2 => ?_)⟩
      · have c3 : r.1 ≤ n := of_decide_eq_true c2
        have := (rowIx_iff hok.rises hr1).mp c3
        refine ⟨_, rfl, rfl, (lo + hi) / 2, hi, some (.int (((lo : Int) + (hi : Int)) / 2)), ?_, this, h2, h3, by omega⟩
        show [some (V.ref S), some (V.int n), some (V.int (((lo : Int) + (hi : Int)) / 2)), some (V.int hi), some (V.int (((lo : Int) + (hi : Int)) / 2))] = _
        rw [em]
      · have c3 : ¬ r.1 ≤ n := fun z => c2 (decide_eq_true z)
        have : ¬ (lo + hi) / 2 < rowIx rs n := fun z => c3 ((rowIx_iff hok.rises hr1).mpr z)
        refine ⟨_, rfl, rfl, lo, (lo + hi) / 2, some (.int (((lo : Int) + (hi : Int)) / 2)), ?_, h1, by omega, by omega, by omega⟩
        show [some (V.ref S), some (V.int n), some (V.int lo), some (V.int (((lo : Int) + (hi : Int)) / 2)), some (V.int (((lo : Int) + (hi : Int)) / 2))] = _
        rw [em]
  · have c1 : ¬ (1 : Int) < (hi : Int) - (lo : Int) := fun z => c (decide_eq_true z)
    have e : lo = rowIx rs n - 1 := by omega
    rw [← e] at q
    exact ⟨_, rfl, q⟩
end
end K18

set_option Elab.async false
set_option linter.all false
set_option maxRecDepth 100000
set_option maxHeartbeats 4000000
namespace K18
open PySem PySem.Spec PyProof.Rows L2 OG
open C8 (pss_cut pe_gc)
open OGX

section
variable {P : Program} {w : World} {K : PySem.W.Frag} {mg : Str → Option Value} {base : Heap}
theorem ok_part_less (T : Tops K mg) : FnOk P w K mg base CX0 4 T.fpart_less T.dpart_less ["one", "other"] (spPartLess K) := by
  have Gpart_sum : FnOk P w K mg base CX0 3 T.fpart_sum T.dpart_sum ["one", "other"] (spPartSum K) := ok_part_sum T
  refine T.Fpart_less.ok (k := 3) scpart_less (fun vs H Q E h => ?_) (fun cdv A outer s H vs Q E hr h => ?_)
  · obtain ⟨u, v, o, p, rfl, _⟩ := h
    rfl
  obtain ⟨u, v, o, p, rfl, hu, ⟨b, rfl, hb⟩, o1, o2, p1, p2, q⟩ := h
  refine ⟨_, (pss_one (ps_ret (pe_call Gpart_sum (hr.mono (by omega)) (by rfl) T.gpart_sum T.Fpart_sum.kp T.bpart_sum .nil pass0 (pa_cons (pv 0) (pa_cons (pe_tup (pa_cons (pe_un un_neg (pe_ix ix_tup (pv 1) pe_int (fun _ _ => rfl))) (pa_cons (pe_ix ix_tup (pv 1) pe_int (fun _ _ => rfl)) pa_nil))) pa_nil))))), ?_⟩
  refine ⟨_, rfl, _, rfl, b, _, 0, _, rfl, rfl, hb, rfl, p.1, rfl, _, rfl, b, _, 1, _, rfl, rfl, hb, rfl, (by show 2 ≤ sizeLine; decide), fun t nt => ?_⟩
  have st := same_new (o := .tup [.int (-p.1), .int p.2]) nt
  exact ⟨u, .ref t, o, (-p.1, p.2), rfl, hu.keeps st, ⟨t, rfl, SqT.of upd_same⟩, o1, o2, p1, p2, fun w' H' s' hR => q w' H' (st.trans s') hR⟩
theorem ok_lcm (T : Tops K mg) : FnOk P w K mg base CX0 2 T.fleast_multiple T.dleast_multiple ["numbers"] spLcm := by
  have Ggreatest_divisor : FnOk P w K mg base CX0 1 T.fgreatest_divisor T.dgreatest_divisor ["one", "other"] spGreatest := ok_greatest_divisor T
  refine T.Fleast_multiple.ok (k := 1) scleast_multiple (fun vs H Q E h => ?_) (fun cdv A outer s H vs Q E hr h => ?_)
  · obtain ⟨a, ns, rfl, _⟩ := h
    rfl
  obtain ⟨a, ns, rfl, ha, hns, q⟩ := h
  refine ⟨_, (pss_cons (ps_set (i := 1) scleast_multiple.nd rfl (Or.inl rfl) pe_int)
 (pss_cons (ps_for PassesOwn.never rfl (pi_list (pv 0)) (pg_name (i := 2) scleast_multiple.nd rfl (Or.inl rfl))
  (pss_one (ps_aug (i := 1) scleast_multiple.nd rfl (Or.inl rfl) (pe_op op_fdiv (pv 2) (pe_call Ggreatest_divisor (hr.mono (by omega)) (by rfl) T.ggreatest_divisor T.Fgreatest_divisor.kp T.bgreatest_divisor .nil pass0 (pa_cons (pv 1) (pa_cons (pv 2) pa_nil)))) ip_mul)))
 (pss_one (ps_ret (pv 1))))), ?_⟩
  refine ⟨_, rfl, a, rfl, ⟨_, SqL.of ha⟩, ?_⟩
  refine for_list (xs := ns.map V.int) (fun i σ H' => H' = H ∧ ∃ (m : Int) (x2 : Option V), σ = [some (.ref a), some (.int m), x2] ∧ (m = 1 ∨ m = 2) ∧ ∀ x ∈ ns.take i, x ∣ m) ⟨rfl, 1, none, rfl, .inl rfl, fun x hx => by cases hx⟩ (fun i σ H' _ hP => by rw [hP.1]; exact SqL.of ha) (fun i x σ H2 hx hP => ?_) (fun σ H2 hP => ?_)
  · obtain ⟨rfl, m, x2, rfl, hm, hd⟩ := hP
    obtain ⟨z, hz⟩ : ∃ z, ns[i]? = some z := by
      have := (List.getElem?_eq_some_iff.mp hx).1
      rw [List.length_map] at this
      exact ⟨_, List.getElem?_eq_getElem this⟩
    rw [mapI_get hz] at hx
    cases hx
    have hz2 := hns z (List.mem_of_getElem? hz)
    have hg : 0 < ((Int.gcd m z : Nat) : Int) ∧ ((Int.gcd m z : Nat) : Int) ≤ 2 := by
      rcases hm with e | e <;> rcases hz2 with f | f <;> rw [e, f] <;> decide
    refine ⟨_, rfl, _, rfl, _, rfl, _, rfl, m, z, rfl, by omega, z, _, rfl, rfl, ⟨hg.1, by omega⟩, _, _, rfl, rfl, ?_, rfl, m * (z / ((Int.gcd m z : Nat) : Int)), _, rfl, ?_, fun x hx => ?_⟩
    · exact .inl ⟨by have e : (-(2 ^ 64) : Int) < 0 := (by decide); omega, by have e : (2 : Int) < 2 ^ 64 := (by decide); omega⟩
    · rcases hm with e | e <;> rcases hz2 with f | f <;> rw [e, f] <;> decide
    · rw [List.take_add_one, hz] at hx
      rcases List.mem_append.mp hx with h | h
      · exact Int.dvd_mul_of_dvd_left (hd x h)
      · rw [List.mem_singleton.mp h]
        rcases hm with e | e <;> rcases hz2 with f | f <;> rw [e, f] <;> decide
  · obtain ⟨rfl, m, x2, rfl, hm, hd⟩ := hP
    rw [List.length_map, List.take_length] at hd
    exact ⟨_, rfl, q m hm hd⟩
end
end K18

set_option Elab.async false
set_option linter.all false
set_option maxRecDepth 100000
set_option maxHeartbeats 4000000
namespace K18
open PySem PySem.Spec PyProof.Rows L2 OG
open C8 (pss_cut pe_gc)
open OGX

section
variable {P : Program} {w : World} {K : PySem.W.Frag} {mg : Str → Option Value} {base : Heap}
theorem ok_terms_less (T : Tops K mg) : FnOk P w K mg base CX0 5 T.fterms_less T.dterms_less ["one", "other"] spTermsLessF := by
  have Gpart_less : FnOk P w K mg base CX0 4 T.fpart_less T.dpart_less ["one", "other"] (spPartLess K) := ok_part_less T
  refine T.Fterms_less.ok (k := 4) scterms_less (fun vs H Q E h => ?_) (fun cdv A outer s H vs Q E hr h => ?_)
  · obtain ⟨l1, l2, ts1, ts2, rfl, _⟩ := h
    rfl
  obtain ⟨l1, l2, ts1, ts2, rfl, ⟨us1, hl1, hR1⟩, ⟨us2, hl2, hR2⟩, k1, k2, n1, n2, q⟩ := h
  refine ⟨_, (pss_cons (ps_set (i := 2) scterms_less.nd rfl (Or.inr rfl) pe_dnewT)
 (pss_cons (ps_for PassesOwn.never rfl (pi_list (pv 0)) (pg_tup rfl (pgs_cons (pg_name (i := 3) scterms_less.nd rfl (Or.inl rfl)) (pgs_cons (pg_name (i := 4) scterms_less.nd rfl (Or.inl rfl)) pgs_nil)))
  (pss_one (ps_dput (hu_of hr) (pv 2) (pv 3) (pv 4) rfl)))
 (pss_cons (ps_for PassesOwn.never rfl (pi_list (pv 1)) (pg_tup rfl (pgs_cons (pg_name (i := 3) scterms_less.nd rfl (Or.inl rfl)) (pgs_cons (pg_name (i := 4) scterms_less.nd rfl (Or.inl rfl)) pgs_nil)))
  (pss_one (ps_dput (hu_of hr) (pv 2) (pv 3) (pe_call Gpart_less (hr.mono (by omega)) (by rfl) T.gpart_less T.Fpart_less.kp T.bpart_less .nil pass0 (pa_cons (pe_dget2 (hu_of hr) (pv 2) (pv 3) (pe_gc (by rfl) T.cNOUGHT) ⟨by rfl, by rfl, by rfl, by rfl⟩) (pa_cons (pv 4) pa_nil))) rfl)))
 (pss_one (ps_ret (pe_lock (pe_dcT (own := [("powers", 3)]) (Nat.lt_of_succ_lt (hu_of hr)) rfl scterms_less.nd (pi_keys (pv 2)) (blkOk_by (N := Nterms_less) (sc := defScope sterms_less) (by decide +kernel)) (fun _ _ _ _ _ => (pg_name (i := 3) scterms_less.nd rfl (Or.inl rfl))) (fun _ _ _ _ _ => (pts_one (pt_cmpR (op_neDK (K := K) rfl hr.units) (pe_dget (hu_of hr) (pv 2) (pv 3) (fun _ _ => rfl)) (pe_gc (by rfl) T.cNOUGHT) (nomark _)))) (fun _ _ _ _ _ => (pv 3)) (fun _ _ _ _ _ => (pe_dget (hu_of hr) (pv 2) (pv 3) (fun _ _ => rfl)))))))))), ?_⟩
  refine fun F nF => ?_
  have s0 : Same H (upd H F (.dT [])) := same_new nF
  refine ⟨_, rfl, l1, rfl, ⟨_, SqL.of (s0 _ _ hl1)⟩, ?_⟩
  refine for_list (xs := us1) (fun i σ H' => Same H H' ∧ DAt H' F (ts1.take i) ∧ ∃ x3 x4, σ = [some (.ref l1), some (.ref l2), some (.ref F), x3, x4]) ⟨s0, ⟨[], upd_same, True.intro⟩, _, _, rfl⟩ (fun i σ H' _ hP => SqL.of (hP.1 _ _ hl1)) (fun i x σ H2 hx hP => ?_) (fun σ H2 hP => ?_)
  · obtain ⟨s2, ⟨kvs, hF, hD⟩, x3, x4, rfl⟩ := hP
    obtain ⟨t, htt, hRt⟩ := rpl_terms hR1 hx
    obtain ⟨c, v1, v2', rfl, hc, h1, h2⟩ := rp_t2 hRt
    obtain ⟨e, w1, w2, rfl, he, rfl, rfl⟩ := rp_t2 h1
    have ht : t ∈ ts1 := List.mem_of_getElem? htt
    have hnew : ∀ x ∈ ts1.take i, x.1 ≠ t.1 := fun x hx z => by
      obtain ⟨j, hj⟩ := List.getElem?_of_mem hx
      have hji : j < i := by
        have := (List.getElem?_eq_some_iff.mp hj).1
        rw [List.length_take] at this
        omega
      rw [List.getElem?_take_of_lt hji] at hj
      have e1 : (ts1.map (·.1))[j]? = some t.1 := by rw [List.getElem?_map, hj]; exact congrArg some z
      have e2 : (ts1.map (·.1))[i]? = some t.1 := by rw [List.getElem?_map, htt]; rfl
      have hlt : j < (ts1.map (·.1)).length := (List.getElem?_eq_some_iff.mp e1).1
      have := (List.getElem?_inj hlt k1.apart).mp (e1.trans e2.symm)
      omega
    have hset : setT (ts1.take i) t.1 t.2 = ts1.take (i + 1) := by
      rw [List.take_add_one, htt]
      exact set_new hnew
    have hlen : kvs.length < sizeLine := by
      rw [hD.len, List.length_take, sizeLine_eq]
      omega
    have hke : H2 e = some (.tup ((pairK t.1).map kV)) := s2 _ _ he
    refine ⟨c, _, rfl, SqT.of (s2 _ _ hc), rfl, _, _, rfl, _, _, rfl, rfl, ?_⟩
    refine ⟨_, rfl, _, rfl, _, rfl, F, _, rfl, DPut.t hF hke hlen, ?_⟩
    have i2 : Imm H2 (upd H2 F (.dT (putK kvs (pairK t.1) v2'))) := (Imm.refl H2).upd fun xs z => by rw [hF] at z; cases z
    refine ⟨Same.upd_new s2 nF, ⟨_, upd_same, ?_⟩, _, _, rfl⟩
    rw [← hset]
    exact (hD.put (h2.to (Imm.same s2)) ((List.Sublist.map _ (List.take_sublist _ _)).nodup k1.apart)).to i2
  obtain ⟨s2, hD0, x3, x4, rfl⟩ := hP
  have len1 : us1.length = ts1.length := hR1.length.trans (List.length_map _)
  rw [len1, List.take_length] at hD0
  refine ⟨_, rfl, l2, rfl, ⟨_, SqL.of (s2 _ _ hl2)⟩, ?_⟩
  refine for_list (xs := us2) (fun i σ H' => Same H H' ∧ DAt H' F ((ts2.take i).foldl stepT ts1) ∧ ∃ x3 x4, σ = [some (.ref l1), some (.ref l2), some (.ref F), x3, x4]) ⟨s2, hD0, _, _, rfl⟩ (fun i σ H' _ hP => SqL.of (hP.1 _ _ hl2)) (fun i x σ H3 hx hP => ?_) (fun σ H3 hP => ?_)
  · obtain ⟨s3, ⟨kvs, hF, hD⟩, y3, y4, rfl⟩ := hP
    obtain ⟨t, htt, hRt⟩ := rpl_terms hR2 hx
    obtain ⟨c, v1, v2', rfl, hc, h1, h2⟩ := rp_t2 hRt
    obtain ⟨e, w1, w2, rfl, he, rfl, rfl⟩ := rp_t2 h1
    have ht : t ∈ ts2 := List.mem_of_getElem? htt
    have hok := (foldu_ok (ts2.take i) ts1 k1 (k2.take i)).1
    have hke : H3 e = some (.tup ((pairK t.1).map kV)) := s3 _ _ he
    refine ⟨c, _, rfl, SqT.of (s3 _ _ hc), rfl, _, _, rfl, _, _, rfl, rfl, ?_⟩
    have hpart : PartAt K H3 ((valV kvs (pairK t.1)).getD (.ref T.aNOUGHT)) ((getT ((ts2.take i).foldl stepT ts1) t.1).getD (0, 1)) := by
      obtain ⟨g1, g2⟩ := hD.val t.1
      cases hg : getT ((ts2.take i).foldl stepT ts1) t.1 with
      | none =>
        rw [g1 hg]
        exact ⟨_, rfl, T.tNOUGHT H3⟩
      | some o =>
        obtain ⟨v, hv, hr⟩ := g2 o hg
        rw [hv]
        exact PartAt.of_rp hr
    have b1 := lowu_get hok.low t.1
    have b2 : t.2.2 = 1 ∨ t.2.2 = 2 := k2.low t ht
    refine ⟨_, rfl, F, rfl, .inr ⟨kvs, .inl hF⟩, _, rfl, _, DGet.t hF hke, _, rfl, _, _, _, t.2, rfl, hpart, PartAt.of_rp (h2.to (Imm.same s3)), by omega, by omega, by omega, by omega, fun w4 H4 s4 hR4 => ?_⟩
    have hF4 := s4 _ _ hF
    have hlen : kvs.length < sizeLine := by
      rw [hD.len, sizeLine_eq]
      have := fold_len (ts2.take i) ts1
      have : (ts2.take i).length ≤ ts2.length := by rw [List.length_take]; omega
      omega
    refine ⟨_, rfl, _, rfl, F, _, rfl, DPut.t hF4 (s4 _ _ hke) hlen, ?_⟩
    have i4 : Imm H4 (upd H4 F (.dT (putK kvs (pairK t.1) w4))) := (Imm.refl H4).upd fun xs z => by rw [hF4] at z; cases z
    refine ⟨Same.upd_new (Same.trans s3 s4) nF, ⟨_, upd_same, ?_⟩, _, _, rfl⟩
    rw [List.take_add_one, htt]
    show PD _ _ ((ts2.take i ++ [t]).foldl stepT ts1)
    rw [List.foldl_append]
    exact ((hD.to (Imm.same s4)).put hR4 hok.apart).to i4
  obtain ⟨s3, ⟨kvs, hF3, hD3⟩, y3, y4, rfl⟩ := hP
  have len2 : us2.length = ts2.length := hR2.length.trans (List.length_map _)
  rw [len2, List.take_length] at hD3
  generalize hds : ts2.foldl stepT ts1 = ds at hD3
  refine ⟨F, _, hF3, True.intro, fun od => ⟨_, rfl, F, od, rfl, .inr ⟨kvs, upd_same, fun D nD => ?_⟩⟩⟩
  have hok : DOF ds := hds ▸ (foldu_ok ts2 ts1 k1 k2).1
  have hdl : ds.length ≤ 200 := by
    have := fold_len ts2 ts1
    rw [hds] at this
    omega
  have nDF : D ≠ F := fun z => by rw [z, upd_same] at nD; cases nD
  have nD3 : H3 D = none := (upd_ne nDF).symm.trans nD
  have neD : ∀ b o, H3 b = some o → b ≠ D := fun b o hb z => by rw [z, nD3] at hb; cases hb
  refine dcT_keys (fun i H' => H' F = some (.frz od (.dT kvs)) ∧ (∀ b o, b ≠ F → H3 b = some o → H' b = some o) ∧ DAt H' D ((ds.take i).filter fun t => decide (t.2 ≠ (0, 1)))) ?_ (fun i H' hP => hP.1) (fun i k v c H' hkv hc hP => ?_) (fun H' hP => ?_)
  · exact ⟨(upd_ne nDF.symm).trans upd_same, fun b o nb hb => (upd_ne (neD b o hb)).trans ((upd_ne nb).trans hb), [], upd_same, True.intro⟩
  · obtain ⟨lkF, keep, kvD, hDD, hPD⟩ := hP
    obtain ⟨t, htt, hk, _⟩ := hD3.get hkv
    have hk' : k = pairK t.1 := hk
    subst hk'
    obtain ⟨v', hv', hRv⟩ := (hD3.val t.1).2 t.2 (get_at hok.apart htt)
    have im : Imm H3 H' := fun b xs hb => keep b _ (fun z => by rw [z, hF3] at hb; cases hb) hb
    have hget : DGet H' F (.ref c) (some v') := .inr ⟨kvs, pairK t.1, c, .inr ⟨od, lkF⟩, rfl, hc, hv'.symm⟩
    have hfil : (ds.take (i + 1)).filter (fun t => decide (t.2 ≠ (0, 1))) = (ds.take i).filter (fun t => decide (t.2 ≠ (0, 1))) ++ [t].filter (fun t => decide (t.2 ≠ (0, 1))) := by
      rw [List.take_add_one, htt, List.filter_append]
      rfl
    refine ⟨rfl, ?_⟩
    refine ⟨_, rfl, _, rfl, F, v', rfl, hget, _, _, rp_dp _ _ (hRv.to im), .tup (T.tNOUGHT H') (.cons (.int 0) (.cons (.int 1) .nil)), rfl, rfl, _, rfl, ?_⟩
    rw [show PyData.eqv (toPy (encP t.2)) (.tuple [.int 0, .int 1]) = decide (t.2 = (0, 1)) from eqv_p2 t.2.1 t.2.2 0 1]
    by_cases hz : t.2 = (0, 1)
    · rw [decide_eq_true hz]
      refine ⟨lkF, keep, kvD, hDD, ?_⟩
      rw [hfil, List.filter_cons_of_neg (by simp [hz]), List.filter_nil, List.append_nil]
      exact hPD
    · rw [decide_eq_false hz]
      have hlen : kvD.length < sizeLine := by
        rw [hPD.len, sizeLine_eq]
        have h1 := List.length_filter_le (fun t : Term => decide (t.2 ≠ (0, 1))) (ds.take i)
        rw [List.length_take] at h1
        omega
      refine ⟨_, rfl, _, rfl, _, rfl, F, v', rfl, hget, _, DPut.t hDD hc hlen, (upd_ne nDF.symm).trans lkF, fun b o nb hb => (upd_ne (neD b o hb)).trans (keep b o nb hb), _, upd_same, ?_⟩
      have iD : Imm H' (upd H' D (.dT (putK kvD (pairK t.1) v'))) := (Imm.refl H').upd fun xs z => by rw [hDD] at z; cases z
      have sub : ((ds.take i).filter fun t => decide (t.2 ≠ (0, 1))).Sublist (ds.take i) := List.filter_sublist
      have hnew : ∀ x ∈ (ds.take i).filter (fun t => decide (t.2 ≠ (0, 1))), x.1 ≠ t.1 := fun x hx => take_apart hok.apart htt x (sub.subset hx)
      rw [hfil, List.filter_cons_of_pos (by simp [hz]), List.filter_nil, ← set_new hnew]
      exact (hPD.put (hRv.to im) ((sub.trans (List.take_sublist _ _)).map _ |>.nodup hok.apart)).to iD
  · obtain ⟨lkF, keep, kvD, hDD, hPD⟩ := hP
    rw [hD3.len, List.take_length] at hPD
    refine ⟨lkF, q D _ (fun b o hb => ?_) ⟨kvD, (upd_ne nDF).trans hDD, ?_⟩ ?_⟩
    · have nb : b ≠ F := fun z => by rw [z, nF] at hb; cases hb
      exact (upd_ne nb).trans (keep b o nb (s3 b o hb))
    · unfold lessT
      rw [hds]
      exact hPD.to ((Imm.refl H').upd fun xs z => by rw [lkF] at z; cases z)
    · cases hD : H D with
      | none => rfl
      | some o => exact absurd (s3 D o hD) (by rw [nD3]; exact fun z => nomatch z)
end
end K18

set_option Elab.async false
set_option linter.all false
set_option maxRecDepth 100000
set_option maxHeartbeats 4000000
namespace K18
open PySem PySem.Spec PyProof.Rows L2 OG
open C8 (pss_cut pe_gc)
open OGX

section
variable {P : Program} {w : World} {K : PySem.W.Frag} {mg : Str → Option Value} {base : Heap}
theorem ok_whole_powers (T : Tops K mg) : FnOk P w K mg base CX0 3 T.fwhole_powers T.dwhole_powers ["terms"] spWholePF := by
  have Gleast_multiple : FnOk P w K mg base CX0 2 T.fleast_multiple T.dleast_multiple ["numbers"] spLcm := ok_lcm T
  refine T.Fwhole_powers.ok (k := 2) scwhole_powers (fun vs H Q E h => ?_) (fun cdv A outer s H vs Q E hr h => ?_)
  · obtain ⟨F, ds, rfl, _⟩ := h
    rfl
  obtain ⟨F, ds, rfl, ⟨kvs, hF, hD⟩, hok, hnz, hlen, q⟩ := h
  refine ⟨_, (pss_cons (ps_set (i := 1) scwhole_powers.nd rfl (Or.inl rfl) (pe_call Gleast_multiple (hr.mono (by omega)) (by rfl) T.gleast_multiple T.Fleast_multiple.kp T.bleast_multiple .nil pass0 (pa_cons (pe_lock (pe_lc (own := [("over", 6), ("under", 7)]) rfl scwhole_powers.nd (pi_valuesT (pv 0)) (blkOk_by (N := Nwhole_powers) (sc := defScope swhole_powers) (by decide +kernel)) (fun _ _ _ _ _ => (pg_tupK (K := K) (n := 2) rfl rfl (pgs_cons (pg_name (i := 6) scwhole_powers.nd rfl (Or.inl rfl)) (pgs_cons (pg_name (i := 7) scwhole_powers.nd rfl (Or.inl rfl)) pgs_nil)))) (fun _ _ _ _ _ => pts_nil) (fun _ _ _ _ _ => (pv 7)))) pa_nil)))
 (pss_cons (ps_set (i := 2) scwhole_powers.nd rfl (Or.inr rfl) pe_dnewK)
 (pss_cons (ps_for PassesOwn.never rfl (pi_list (pe_callBK cr_sortedRP (by rfl) T.msorted (by decide +kernel) (pa_cons (pe_callTy (cr_listKeysT rfl) (by rfl) T.mlist (by decide +kernel) (pa_cons (pe_keysT (pv 0)) pa_nil)) pa_nil) (pk_cons pe_bl pk_nil))) (pg_tup rfl (pgs_cons (pg_name (i := 3) scwhole_powers.nd rfl (Or.inl rfl)) (pgs_cons (pg_name (i := 4) scwhole_powers.nd rfl (Or.inl rfl)) pgs_nil)))
  (pss_cons (ps_asg (pe_dget (hu_of hr) (pv 0) (pe_tup (pa_cons (pv 3) (pa_cons (pv 4) pa_nil))) (fun _ _ => rfl)) (pg_tup rfl (pgs_cons (pg_name (i := 6) scwhole_powers.nd rfl (Or.inl rfl)) (pgs_cons (pg_name (i := 7) scwhole_powers.nd rfl (Or.inl rfl)) pgs_nil))))
 (pss_cons (ps_set (i := 5) scwhole_powers.nd rfl (Or.inl rfl) (pe_dsetd (pv 2) (pv 3) (pe_op op_rep (pe_lst (pa_cons pe_int pa_nil)) (pe_op op_add (pv 4) pe_int)) ⟨by rfl, by rfl, by rfl, by rfl⟩))
 (pss_one (ps_asg (pe_op op_mul (pv 6) (pe_op op_fdiv (pv 1) (pv 7))) (pg_sub (pv 5) (pv 4) set_list))))))
 (pss_one (ps_ret (pe_lock (pe_lc (own := [("power_of_n", 3)]) rfl scwhole_powers.nd (pi_keys (pv 2)) (blkOk_by (N := Nwhole_powers) (sc := defScope swhole_powers) (by decide +kernel)) (fun _ _ _ _ _ => (pg_name (i := 3) scwhole_powers.nd rfl (Or.inl rfl))) (fun _ _ _ _ _ => pts_nil) (fun _ _ _ _ _ => (pe_tup (pa_cons (pv 3) (pa_cons (pe_dget (hu_of hr) (pv 2) (pv 3) (fun _ _ => rfl)) pa_nil))))))))))), ?_⟩
  refine ⟨F, _, hF, True.intro, fun od => ⟨_, rfl, F, od, kvs, rfl, upd_same, fun L nL => ?_⟩⟩
  have nLF : L ≠ F := fun z => by rw [z, upd_same] at nL; cases nL
  have nLH : H L = none := (upd_ne nLF).symm.trans nL
  have neL : ∀ b o, H b = some o → b ≠ L := fun b o hb z => by rw [z, nLH] at hb; cases hb
  have hkl : kvs.length = ds.length := hD.len
  refine lc_walk (J := Itvt F od kvs) (n := kvs.length) (fun i H' => H' F = some (.frz od (.dT kvs)) ∧ (∀ b o, b ≠ F → H b = some o → H' b = some o) ∧ LAt H' L ((ds.take i).map fun t => t.2.2)) ?_ (fun i H' lt hP => ⟨hP.1, lt⟩) (fun H' hP => ⟨hP.1, Nat.le_refl _⟩) (fun i x H1 H' lt hP hy => ?_) (fun H' hP => ?_)
  · exact ⟨(upd_ne nLF.symm).trans upd_same, fun b o nb hb => (upd_ne (neL b o hb)).trans ((upd_ne nb).trans hb), upd_same⟩
  · obtain ⟨rfl, k, hkv⟩ := hy
    obtain ⟨lkF, keep, hL⟩ := hP
    obtain ⟨t, htt, _, hRt⟩ := hD.get hkv
    obtain ⟨c, w1, w2, e, hc, rfl, rfl⟩ := rp_t2 hRt
    have e' : x = .ref c := e
    subst e'
    have nc : c ≠ F := fun z => by rw [z, hF] at hc; cases hc
    refine ⟨c, _, rfl, SqT.of (keep c _ nc hc), rfl, _, _, rfl, _, _, rfl, rfl, rfl, ?_⟩
    refine ⟨_, rfl, _, hL, ?_, (upd_ne nLF.symm).trans lkF, fun b o nb hb => (upd_ne (neL b o hb)).trans (keep b o nb hb), ?_⟩
    · rw [List.length_map, List.length_map, List.length_take, sizeLine_eq]
      omega
    · show upd _ L _ L = _
      rw [upd_same, List.take_add_one, htt, List.map_append, List.map_append]
      rfl
  obtain ⟨lkF, keep, hL⟩ := hP
  rw [hkl, List.take_length] at hL
  refine ⟨lkF, ?_⟩
  refine ⟨L, ds.map fun t : Term => t.2.2, rfl, (upd_ne nLF).trans hL, fun n hn => ?_, fun m hm hdv => ?_⟩
  · obtain ⟨t, ht, rfl⟩ := List.mem_map.mp hn
    exact hok.low t ht
  generalize hHa : upd H' F (.dT kvs) = Ha at *
  have sa : Same H Ha := fun b o hb => by
    rw [← hHa]
    by_cases hbF : b = F
    · rw [hbF, upd_same, ← hF, ← hbF]
      exact hb
    · exact (upd_ne hbF).trans (keep b o hbF hb)
  have hFa : Ha F = some (.dT kvs) := sa F _ hF
  have hDa : PD Ha kvs ds := hD.to (Imm.same sa)
  refine fun G nG => ?_
  have sb : Same Ha (upd Ha G (.dK [])) := same_new nG
  refine ⟨_, rfl, F, kvs, rfl, sb _ _ hFa, fun p np => ?_⟩
  have sc := sb.trans (same_new (o := keysO p F) np)
  refine ⟨p, F, kvs, rfl, upd_same, sc _ _ hFa, fun l bs nl hbs => ?_⟩
  have sd := sc.trans (same_new (o := .lst (bs.map V.ref)) nl)
  obtain ⟨hks, hbt⟩ := keys_paired hbs hDa.keys
  generalize hHp : upd (upd Ha G (.dK [])) p (keysO p F) = Hp0 at *
  generalize hHl : upd Hp0 l (.lst (bs.map V.ref)) = Hl at *
  have hkl2 : ∀ b ∈ bs, Hl b = some (.tup [.int (keyAt Hp0 b).1, .int (keyAt Hp0 b).2]) ∧ keyAt Hl b = keyAt Hp0 b := fun b hb => by
    have e1 := hbt b hb
    have nb : b ≠ l := fun z => by rw [z, nl] at e1; cases e1
    have e2 : Hl b = Hp0 b := by rw [← hHl]; exact upd_ne nb
    exact ⟨e2.trans e1, by unfold keyAt; rw [e2]⟩
  refine ⟨l, bs, rfl, rfl, SqL.of (by rw [← hHl]; exact upd_same), fun b hb => by rw [(hkl2 b hb).2]; exact (hkl2 b hb).1, fun cs S perm srt nS => ?_⟩
  have hks2 : (cs.map (keyAt Hl)).Perm (ds.map (·.1)) := by
    rw [← hks]
    refine (perm.map _).trans (List.Perm.of_eq (List.map_congr_left fun b hb => (hkl2 b hb).2))
  have hknd : (cs.map (keyAt Hl)).Nodup := hks2.nodup_iff.mpr hok.apart
  have hk0 : ∀ k ∈ cs.map (keyAt Hl), 0 ≤ k.1 ∧ 0 ≤ k.2 := fun k hk => by
    obtain ⟨t, ht, rfl⟩ := List.mem_map.mp (hks2.mem_iff.mp hk)
    have := hok.keys t ht
    exact ⟨this.1, this.2.2.1⟩
  have hfall := tsOf_fallsF (ds := ds) (m := m) hknd hk0 (List.pairwise_map.mpr srt)
  have hperm := tsOf_perm (ks := (cs.map (keyAt Hl)).reverse) hok.apart ((List.reverse_perm _).trans hks2)
  refine ⟨S, rfl, ⟨_, SqL.of upd_same⟩, ?_⟩
  have se : Same Ha (upd Hl S (.lst (cs.reverse.map V.ref))) := sd.trans (same_new nS)
  have hGe : (upd Hl S (.lst (cs.reverse.map V.ref))) G = some (.dK []) := by
    have e1 : Hp0 G = some (.dK []) := by
      rw [← hHp]
      exact same_new np _ _ upd_same
    refine same_new nS _ _ ?_
    rw [← hHl]
    exact same_new nl _ _ e1
  have hSe : (upd Hl S (.lst (cs.reverse.map V.ref))) S = some (.lst (cs.reverse.map V.ref)) := upd_same
  have hce : ∀ c ∈ cs, (upd Hl S (.lst (cs.reverse.map V.ref))) c = some (.tup [.int (keyAt Hl c).1, .int (keyAt Hl c).2]) := fun c hc => same_new nS _ _ (by
    have := hkl2 c (perm.mem_iff.mp hc)
    rw [this.2]
    exact this.1)
  generalize upd Hl S (.lst (cs.reverse.map V.ref)) = He at *
  rw [← List.map_reverse] at hfall hperm
  generalize hts : tsOf ds (cs.reverse.map (keyAt Hl)) = ts at *
  have nGS : S ≠ G := fun z => by rw [z, hGe] at hSe; cases hSe
  have hlts : ts.length ≤ 200 := hperm.length_eq ▸ hlen
  refine for_list (xs := cs.reverse.map V.ref) (fun i σ H' => (∀ b o, b ≠ G → He b = some o → H' b = some o) ∧ (∃ kvG as, H' G = some (.dK kvG) ∧ GF H' kvG (grp ((ts.take i).map (monoOf m))) as ∧ ∀ b ∈ as, He b = none) ∧ ∃ x3 x4 x5 x6 x7, σ = [some (.ref F), some (.int m), some (.ref G), x3, x4, x5, x6, x7])
    ⟨fun b o _ h => h, ⟨[], [], hGe, .nil, fun _ h => nomatch h⟩, _, _, _, _, _, rfl⟩ (fun i σ H' _ hP => SqL.of (hP.1 _ _ nGS hSe)) (fun i x σ H2 hx hP => ?_) (fun σ H2 hP => ?_)
  · obtain ⟨keep2, ⟨kvG, as, hG2, hGP, has⟩, x3, x4, x5, x6, x7, rfl⟩ := hP
    rw [List.getElem?_map] at hx
    obtain ⟨c, hci, rfl⟩ := Option.map_eq_some_iff.mp hx
    have hcm : c ∈ cs := List.mem_reverse.mp (List.mem_of_getElem? hci)
    have hti : ts[i]? = some (keyAt Hl c, (getT ds (keyAt Hl c)).getD (0, 1)) := by
      rw [← hts]
      unfold tsOf
      rw [List.getElem?_map, List.getElem?_map, hci]
      rfl
    have hc2 := hce c hcm
    generalize keyAt Hl c = k at hti hc2
    obtain ⟨k1, k2⟩ := k
    have ncG : c ≠ G := fun z => by rw [z, hGe] at hc2; cases hc2
    refine ⟨c, _, rfl, SqT.of (keep2 c _ ncG hc2), rfl, _, _, rfl, _, _, rfl, rfl, ?_⟩
    have hFe : He F = some (.dT kvs) := se F _ hFa
    have nFG : F ≠ G := fun z => by rw [z, hGe] at hFe; cases hFe
    have htd : ((k1, k2), (getT ds (k1, k2)).getD (0, 1)) ∈ ds := hperm.mem_iff.mp (List.mem_of_getElem? hti)
    have hkk := hok.keys _ htd
    have hk1 : 0 ≤ k1 ∧ k1 ≤ 9 := ⟨hkk.1, hkk.2.1⟩
    have hk2 : 0 ≤ k2 ∧ k2 ≤ 9 := ⟨hkk.2.2.1, hkk.2.2.2⟩
    have hgo : getT ds (k1, k2) = some ((getT ds (k1, k2)).getD (0, 1)) := by
      obtain ⟨j, hj⟩ := List.getElem?_of_mem htd
      exact get_at hok.apart hj
    generalize (getT ds (k1, k2)).getD (0, 1) = o at hti htd hgo
    obtain ⟨v, hv, hRv⟩ := (hDa.val (k1, k2)).2 o hgo
    obtain ⟨d, w1, w2, rfl, hd, rfl, rfl⟩ := rp_t2 hRv
    have hde := se d _ hd
    have ndG : d ≠ G := fun z => by rw [z, hGe] at hde; cases hde
    have hd2 := keep2 d _ ndG hde
    refine ⟨_, rfl, _, rfl, _, rfl, (by show 2 ≤ sizeLine; decide), fun kx nkx => ?_⟩
    have sf : Same H2 (upd H2 kx (.tup [.int k1, .int k2])) := same_new nkx
    have hget := DGet.t (k := pairK (k1, k2)) (sf _ _ (keep2 F _ nFG hFe)) (upd_same (H := H2) (a := kx) (o := .tup [.int k1, .int k2]))
    rw [hv] at hget
    refine ⟨F, _, rfl, hget, d, _, rfl, SqT.of (sf _ _ hd2), rfl, _, _, rfl, _, _, rfl, rfl, ?_⟩
    refine ⟨_, rfl, G, rfl, .inl ⟨kvG, .inl (sf _ _ hG2)⟩, _, rfl, (by show 1 ≤ sizeLine; decide), fun z nz => ?_⟩
    have sg := sf.trans (same_new (o := .lst [.int 0]) nz)
    refine ⟨_, rfl, k2, 1, rfl, rfl, z, _, [.int 0], rfl, rfl, upd_same, by omega, by omega, ?_, fun pt npt => ?_⟩
    · show 1 * (k2 + 1 : Int).toNat ≤ sizeLine
      exact sz (by omega)
    rw [List.flatten_replicate_singleton]
    have er : List.replicate (k2 + 1).toNat (V.int 0) = (List.replicate (k2 + 1).toNat (0 : Int)).map V.int := by rw [List.map_replicate]
    rw [er]
    have sh := sg.trans (same_new (o := .lst ((List.replicate (k2 + 1).toNat (0 : Int)).map V.int)) npt)
    have hpt : (upd (upd (upd H2 kx (.tup [.int k1, .int k2])) z (.lst [.int 0])) pt (.lst ((List.replicate (k2 + 1).toNat (0 : Int)).map V.int))) pt = some (.lst ((List.replicate (k2 + 1).toNat (0 : Int)).map V.int)) := upd_same
    have nptG : pt ≠ G := fun e => by
      rw [e] at npt
      rw [sg _ _ hG2] at npt
      cases npt
    have hnpt : ∀ b u, H2 b = some u → b ≠ pt := fun b u hb e => by
      rw [← e, sg _ _ hb] at npt
      cases npt
    have hepn : He pt = none := by
      cases hz : He pt with
      | none => rfl
      | some u => exact absurd rfl (hnpt pt u (keep2 pt u nptG hz))
    generalize upd (upd (upd H2 kx (.tup [.int k1, .int k2])) z (.lst [.int 0])) pt (.lst ((List.replicate (k2 + 1).toNat (0 : Int)).map V.int)) = H5 at *
    -- the grouped list with one term more
    have hlx : ((ts.take (i + 1)).map (monoOf m)).Pairwise lexD := List.Pairwise.sublist ((List.take_sublist _ _).map _) hfall
    have etk : (ts.take (i + 1)).map (monoOf m) = (ts.take i).map (monoOf m) ++ [(k1.toNat, k2.toNat, o.1 * (m / o.2))] := by
      rw [List.take_add_one, hti, List.map_append]
      rfl
    rw [etk] at hlx
    have egr := grp_snoc hlx
    have hl0 := (List.pairwise_append.mp hlx).1
    have hdes := grp_falls hl0
    have hG5 := sh _ _ hG2
    have hGP5 : GF H5 kvG (grp ((ts.take i).map (monoOf m))) as := hGP.to fun b xs hb => sh _ _ hb
    have hlen2 := hGP.len
    have few : (grp ((ts.take i).map (monoOf m))).length ≤ 200 := by
      have := grp_len ((ts.take i).map (monoOf m))
      rw [List.length_map, List.length_take] at this
      omega
    have ek1 : ((k1.toNat : Nat) : Int) = k1 := Int.toNat_of_nonneg hk1.1
    have mo : m / o.2 = 0 ∨ m / o.2 = 1 ∨ m / o.2 = 2 := by
      have h12 : o.2 = 1 ∨ o.2 = 2 := hok.low _ htd
      rcases hm with e | e <;> rcases h12 with f | f <;> rw [e, f] <;> decide
    have hlo : o.2 = 1 ∨ o.2 = 2 := hok.low _ htd
    have hci := grp_next hlx
    have ixOf : ∀ n : Nat, k2.toNat < n → ixN n k2 = some k2.toNat := fun n hn => by
      unfold ixN
      rw [if_pos (by omega), if_pos (by omega)]
    rcases hci with ⟨pw0, q1, eg⟩ | ⟨hne, est⟩
    · -- one of this power stands there
      obtain ⟨kvs0, as0, b, ekv, eas, hGF0, hLb, hnb⟩ := hGP5.last eg
      have hvb : valV kvG (.inl k1) = some (.ref b) := by
        have := hGP.val hdes (i := kvs0.length) (kv := (.inl ((k1.toNat : Nat) : Int), .ref b)) (by rw [ekv, List.getElem?_concat_length])
        rw [ek1] at this
        exact this
      have lq : k2.toNat < q1.length := by
        exact grp_last_len _ (k1.toNat, k2.toNat, o.1 * (m / o.2)) hlx pw0 q1 eg
      refine ⟨kvG, .inl k1, hG5, rfl, ?_, fun v' hv' => ?_, fun hv' => ?_⟩
      · rw [hlen2.1, sizeLine_eq]
        omega
      · rw [hvb] at hv'
        cases hv'
        refine ⟨_, rfl, _, rfl, _, rfl, m, o.2, rfl, rfl, ?_, o.1, _, rfl, rfl, ?_, _, rfl, _, rfl, b, _, k2, k2.toNat, rfl, rfl, hLb, by rw [List.length_map]; exact ixOf _ lq, ?_⟩
        · exact ⟨by omega, by omega⟩
        · exact .inr ⟨by omega, by omega⟩
        · have hbnone : He b = none := has b (by rw [eas]; exact List.mem_append_right _ List.mem_cons_self)
          have nbG : b ≠ G := fun e => by rw [e, hGe] at hbnone; cases hbnone
          have nHe : ∀ c u, He c = some u → c ≠ b := fun c u hc e => by rw [e, hbnone] at hc; cases hc
          refine ⟨fun c u nc hc => ?_, ⟨kvG, as, (upd_ne nbG.symm).trans hG5, ?_, has⟩, _, _, _, _, _, rfl⟩
          · exact (upd_ne (nHe c u hc)).trans (sh _ _ (keep2 c u nc hc))
          · rw [etk, egr, eg, stepL_last, if_pos rfl, ekv, eas]
            refine .snoc (hGF0.off fun c xs hc hx => ?_) ?_ hnb
            · exact (upd_ne (fun e : c = b => hnb (by rw [← e]; exact hc))).trans hx
            · show (upd H5 b _) b = some (HO.lst _)
              rw [upd_same, List.map_set]
      · rw [hvb] at hv'
        cases hv'
    · have hfr : valV kvG (.inl k1) = none := by
        have := hGP.fresh hne
        rw [ek1] at this
        exact this
      refine ⟨kvG, .inl k1, hG5, rfl, ?_, fun v' hv' => ?_, fun _ => ?_⟩
      · rw [hlen2.1, sizeLine_eq]
        omega
      · rw [hfr] at hv'
        cases hv'
      rw [putK_new _ hfr]
      have hpt6 : (upd H5 G (.dK (kvG ++ [(.inl k1, .ref pt)]))) pt = some (.lst ((List.replicate (k2 + 1).toNat (0 : Int)).map V.int)) := (upd_ne nptG).trans hpt
      refine ⟨_, rfl, _, rfl, _, rfl, m, o.2, rfl, rfl, ?_, o.1, _, rfl, rfl, ?_, _, rfl, _, rfl, pt, _, k2, k2.toNat, rfl, rfl, hpt6, by rw [List.length_map, List.length_replicate]; exact ixOf _ (by omega), ?_⟩
      · exact ⟨by omega, by omega⟩
      · exact .inr ⟨by omega, by omega⟩
      · refine ⟨fun b u nb hb => ?_, ⟨kvG ++ [(.inl k1, .ref pt)], as ++ [pt], ?_, ?_, fun b hb => ?_⟩, _, _, _, _, _, rfl⟩
        · have h2 := keep2 b u nb hb
          exact (upd_ne (hnpt b u h2)).trans ((upd_ne nb).trans (sh _ _ h2))
        · exact (upd_ne nptG.symm).trans upd_same
        · rw [etk, egr, est, ← ek1]
          refine .snoc (hGP.to fun b xs hb => ?_) ?_ fun hb => ?_
          · have nb : b ≠ G := fun e => by rw [e, hG2] at hb; cases hb
            exact (upd_ne (hnpt b _ hb)).trans ((upd_ne nb).trans (sh _ _ hb))
          · show (upd _ pt _) pt = some (HO.lst _)
            rw [upd_same, ← List.map_set]
            refine congrArg (fun l : List Int => some (HO.lst (l.map V.int))) ?_
            have e1 : (k2 + 1).toNat = k2.toNat + 1 := by omega
            rw [e1, List.replicate_succ']
            unfold ext
            rw [List.set_append_right _ _ (by rw [List.length_replicate]; exact Nat.le_refl _), List.length_replicate, Nat.sub_self]
            rfl
          · obtain ⟨xs, hx⟩ := hGP.there pt hb
            exact hnpt pt _ hx rfl
        · rcases List.mem_append.mp hb with w | w
          · exact has b w
          · rw [List.mem_singleton.mp w]
            exact hepn
  obtain ⟨keep2, ⟨kvG, as, hG2, hGP, has⟩, x3, x4, x5, x6, x7, rfl⟩ := hP
  have hll : (cs.reverse.map V.ref).length = ts.length := by
    rw [← hts]
    unfold tsOf
    rw [List.length_map, List.length_map, List.length_map]
  rw [hll, List.take_length] at hGP
  have hdes := grp_falls hfall
  have few := grp_len (ts.map (monoOf m))
  rw [List.length_map] at few
  have hglen := hGP.len
  generalize hpw : grp (ts.map (monoOf m)) = pw at *
  refine ⟨G, _, hG2, True.intro, fun od2 => ⟨_, rfl, G, od2, rfl, .inl ⟨kvG, upd_same, fun R nR => ?_⟩⟩⟩
  have nRG : R ≠ G := fun z => by rw [z, upd_same] at nR; cases nR
  have nR2 : H2 R = none := (upd_ne nRG).symm.trans nR
  have neR : ∀ b o, H2 b = some o → b ≠ R := fun b o hb z => by rw [z, nR2] at hb; cases hb
  refine lc_walk (J := Itk G od2 kvG) (n := kvG.length) (fun i H' => H' G = some (.frz od2 (.dK kvG)) ∧ (∀ b o, b ≠ G → H2 b = some o → H' b = some o) ∧ ∃ us : List V, H' R = some (.lst us) ∧ us.length = i ∧
      ∀ (j : Nat) (u : V) (e : Nat × List Int), us[j]? = some u → pw[j]? = some e → ∃ tp b, u = .ref tp ∧ H' tp = some (.tup [.int e.1, .ref b]) ∧ LAt H2 b e.2)
    ?_ (fun i H' lt hP => ⟨hP.1, lt⟩) (fun H' hP => ⟨hP.1, Nat.le_refl _⟩) (fun i x H1 H' lt hP hy => ?_) (fun H' hP => ?_)
  · exact ⟨(upd_ne nRG.symm).trans upd_same, fun b o nb hb => (upd_ne (neR b o hb)).trans ((upd_ne nb).trans hb), [], upd_same, rfl, fun j u t hu => by simp at hu⟩
  · obtain ⟨rfl, k, v, hkv, rfl⟩ := hy
    obtain ⟨lkG, keep, us, hR, hul, hus⟩ := hP
    obtain ⟨e, b, hte, ep, hb⟩ := hGP.get hkv
    have hval := hGP.val hdes hkv
    obtain ⟨rfl, rfl⟩ := Prod.mk.inj ep
    refine ⟨rfl, ?_⟩
    refine ⟨_, rfl, _, rfl, _, rfl, G, _, rfl, .inl ⟨kvG, .inl (e.1 : Int), .inr ⟨od2, lkG⟩, rfl, hval.symm⟩, (by show 2 ≤ sizeLine; decide), fun tp ntp => ?_⟩
    have neT : ∀ c o, H' c = some o → c ≠ tp := fun c o hc z => by rw [z, ntp] at hc; cases hc
    have nRT : R ≠ tp := neT R _ hR
    refine ⟨us, (upd_ne nRT).trans hR, ?_, (upd_ne nRG.symm).trans ((upd_ne (neT G _ lkG)).trans lkG), fun c o nc hc => ?_, us ++ [.ref tp], upd_same, ?_, fun j u e' hu he' => ?_⟩
    · rw [hul, sizeLine_eq]
      omega
    · have h1 := keep c o nc hc
      exact (upd_ne (neR c o hc)).trans ((upd_ne (neT c o h1)).trans h1)
    · rw [List.length_append, hul]
      rfl
    · by_cases hj : j < us.length
      · rw [List.getElem?_append_left hj] at hu
        obtain ⟨tq, b', e1, e2, e3⟩ := hus j u e' hu he'
        have nq : tq ≠ R := fun z => by rw [z, hR] at e2; cases e2
        exact ⟨tq, b', e1, (upd_ne nq).trans ((upd_ne (neT tq _ e2)).trans e2), e3⟩
      · have hjl := (List.getElem?_eq_some_iff.mp hu).1
        rw [List.length_append] at hjl
        have hjl' : j < us.length + 1 := hjl
        obtain rfl : j = us.length := by omega
        rw [List.getElem?_concat_length] at hu
        cases hu
        rw [hul, hte] at he'
        cases he'
        exact ⟨tp, b, rfl, (upd_ne nRT.symm).trans upd_same, hb⟩
  · obtain ⟨lkG, keep, us, hR, hul, hus⟩ := hP
    have rfresh : H R = none := by
      cases hRz : H R with
      | none => rfl
      | some o =>
        have hbe := se R o (sa R o hRz)
        rw [keep2 R o nRG hbe] at nR2
        cases nR2
    refine ⟨lkG, q R m ts _ (fun b o hb => ?_) rfresh ?_ hm (fun t ht => hdv _ (List.mem_map.mpr ⟨t, ht, rfl⟩)) hperm hfall⟩
    · have hbe := se b o (sa b o hb)
      have nb : b ≠ G := fun z => by rw [z] at hb; rw [sa G o hb] at nG; cases nG
      exact (upd_ne nb).trans (keep b o nb (keep2 b o nb hbe))
    · rw [hpw]
      refine ⟨us, (upd_ne nRG).trans hR, hul.trans hglen.1, fun j u p hu hp => ?_⟩
      obtain ⟨tp, b, e1, e2, e3⟩ := hus j u p hu hp
      have n1 : tp ≠ G := fun z => by rw [z, lkG] at e2; cases e2
      have n2 : b ≠ G := fun z => by rw [z] at e3; rw [show H2 G = _ from e3] at hG2; cases hG2
      exact ⟨tp, b, e1, (upd_ne n1).trans e2, (upd_ne n2).trans (keep b _ n2 e3)⟩
end
end K18

set_option Elab.async false
set_option linter.all false
set_option maxRecDepth 100000
set_option maxHeartbeats 4000000
namespace K18
open PySem PySem.Spec PyProof.Rows L2 OG
open C8 (pss_cut pe_gc)
open OGX

section
variable {P : Program} {w : World} {K : PySem.W.Frag} {mg : Str → Option Value} {base : Heap}
theorem ok_stretches_of (T : Tops K mg) : FnOk P w K mg base CX0 6 T.fstretches_of T.dstretches_of ["one", "other"] spStretchesF := by
  have Gterms_less : FnOk P w K mg base CX0 5 T.fterms_less T.dterms_less ["one", "other"] spTermsLessF := ok_terms_less T
  have Gwhole_powers : FnOk P w K mg base CX0 3 T.fwhole_powers T.dwhole_powers ["terms"] spWholePF := ok_whole_powers T
  have Grow_at : FnOk P w K mg base CX0 1 T.frow_at T.drow_at ["rows", "size"] spRowAt := ok_row_at T
  refine T.Fstretches_of.ok (k := 5) scstretches_of (fun vs H Q E h => ?_) (fun cdv A outer s H vs Q E hr h => ?_)
  · obtain ⟨S1, rs1, ls1, S2, rs2, ls2, AA, NN, rfl, _⟩ := h
    rfl
  obtain ⟨S1, rs1, ls1, S2, rs2, ls2, AA, NN, rfl, hS1, hS2, k1, k2, q⟩ := h
  refine ⟨_, (pss_cons (ps_set (i := 2) scstretches_of.nd rfl (Or.inl rfl) (pe_lst pa_nil))
 (pss_cons (ps_for PassesOwn.never rfl (pi_list (pe_callB (cr_sortedSet rfl) (by rfl) T.msorted (by decide +kernel) (pa_cons (pe_callTy (cr_setL rfl) (by rfl) T.mset (by decide +kernel) (pa_cons (pe_op op_cat (pe_lc (own := [("row", 5)]) rfl scstretches_of.nd (pi_list (pv 0)) (blkOk_by (N := Nstretches_of) (sc := defScope sstretches_of) (by decide +kernel)) (fun _ _ _ _ _ => (pg_name (i := 5) scstretches_of.nd rfl (Or.inl rfl))) (fun _ _ _ _ _ => pts_nil) (fun _ _ _ _ _ => (pe_ix (ix_tupK (K := K) rfl) (pv 5) pe_int (fun _ _ => rfl)))) (pe_lc (own := [("row", 5)]) rfl scstretches_of.nd (pi_list (pv 1)) (blkOk_by (N := Nstretches_of) (sc := defScope sstretches_of) (by decide +kernel)) (fun _ _ _ _ _ => (pg_name (i := 5) scstretches_of.nd rfl (Or.inl rfl))) (fun _ _ _ _ _ => pts_nil) (fun _ _ _ _ _ => (pe_ix (ix_tupK (K := K) rfl) (pv 5) pe_int (fun _ _ => rfl))))) pa_nil)) pa_nil))) (pg_name (i := 3) scstretches_of.nd rfl (Or.inl rfl))
  (pss_cons (ps_set (i := 4) scstretches_of.nd rfl (Or.inl rfl) (pe_call Gterms_less (hr.mono (by omega)) (by rfl) T.gterms_less T.Fterms_less.kp T.bterms_less .nil pass0 (pa_cons (pe_ix ix_tup (pe_ix ix_list (pv 0) (pe_call Grow_at (hr.mono (by omega)) (by rfl) T.grow_at T.Frow_at.kp T.brow_at .nil pass0 (pa_cons (pv 0) (pa_cons (pv 3) pa_nil))) (fun _ _ => rfl)) pe_int (fun _ _ => rfl)) (pa_cons (pe_ix ix_tup (pe_ix ix_list (pv 1) (pe_call Grow_at (hr.mono (by omega)) (by rfl) T.grow_at T.Frow_at.kp T.brow_at .nil pass0 (pa_cons (pv 1) (pa_cons (pv 3) pa_nil))) (fun _ _ => rfl)) pe_int (fun _ _ => rfl)) pa_nil))))
 (pss_one (ps_expr (pe_bm PySem.F.plainAttrs_list PySem.F.slot_list_append PySem.F.type_list_append mt_append (pv 2) (pa_cons (pe_tup (pa_cons (pv 3) (pa_cons (pe_call Gwhole_powers (hr.mono (by omega)) (by rfl) T.gwhole_powers T.Fwhole_powers.kp T.bwhole_powers .nil pass0 (pa_cons (pv 4) pa_nil)) pa_nil))) pa_nil))))))
 (pss_one (ps_ret (pv 2))))), ?_⟩
  refine ⟨Nat.zero_le _, fun F nF => ?_⟩
  have s0 : Same H (upd H F (.lst [])) := same_new nF
  obtain ⟨us1, hl1, hR1⟩ := id hS1
  obtain ⟨us2, hl2, hR2⟩ := id hS2
  have lus1 := hR1.len.1
  have lus2 := hR2.len.1
  have ro1 := k1.ok
  have ro2 := k2.ok
  have l41 := ro1.short
  have l42 := ro2.short
  refine ⟨_, rfl, S1, rfl, ⟨_, SqL.of (s0 _ _ hl1)⟩, fun p1 np1 => ?_⟩
  refine lc_list_map (K := K) (xs := us1) (rs1.map fun r => V.int r.1) 5 rfl (fun v => rfl) (by rw [List.length_map, lus1]) (by omega) (s0 _ _ hl1) np1 (fun j x y H9 Q9 hx hy s9 k9 => ?_) (fun H1 s1 hp1 => ?_)
  · obtain ⟨r, l3, hr3, _, hR3⟩ := (hR1.same (s0.trans s9)).get hx
    obtain ⟨b, rfl, hb, _⟩ := hR3
    have ey : y = .int r.1 := by
      rw [List.getElem?_map, hr3] at hy
      exact (Option.some.inj hy).symm
    subst ey
    exact ⟨_, rfl, b, _, 0, _, rfl, rfl, SqT.of hb, rfl, k9 H9 (Same.refl H9)⟩
  have t1 := s0.trans s1
  refine ⟨_, rfl, S2, rfl, ⟨_, SqL.of (t1 _ _ hl2)⟩, fun p2 np2 => ?_⟩
  refine lc_list_map (K := K) (xs := us2) (rs2.map fun r => V.int r.1) 5 rfl (fun v => rfl) (by rw [List.length_map, lus2]) (by omega) (t1 _ _ hl2) np2 (fun j x y H9 Q9 hx hy s9 k9 => ?_) (fun H2 s2 hp2 => ?_)
  · obtain ⟨r, l3, hr3, _, hR3⟩ := (hR2.same (t1.trans s9)).get hx
    obtain ⟨b, rfl, hb, _⟩ := hR3
    have ey : y = .int r.1 := by
      rw [List.getElem?_map, hr3] at hy
      exact (Option.some.inj hy).symm
    subst ey
    exact ⟨_, rfl, b, _, 0, _, rfl, rfl, SqT.of hb, rfl, k9 H9 (Same.refl H9)⟩
  have t2 := s1.trans s2
  refine ⟨p1, p2, _, _, rfl, rfl, s2 _ _ hp1, hp2, ?_, fun p3 np3 => ?_⟩
  · rw [List.length_map, List.length_map, sizeLine_eq]
    omega
  have exs : (rs1.map fun r => V.int r.1) ++ (rs2.map fun r => V.int r.1) = (rs1.map (·.1) ++ rs2.map (·.1)).map V.int := by
    rw [List.map_append, List.map_map, List.map_map]
    rfl
  rw [exs]
  have t3 := t2.trans (same_new (o := .lst ((rs1.map (·.1) ++ rs2.map (·.1)).map V.int)) np3)
  have hmlen : (rs1.map (·.1) ++ rs2.map (·.1)).length ≤ 16 := by
    rw [List.length_append, List.length_map, List.length_map]
    omega
  refine ⟨p3, _, rfl, SqL.of upd_same, by omega, fun p4 m hm np4 => ?_⟩
  rw [show (cxOf CX0 P w K mg base Nstretches_of "stretches_of" (defScope sstretches_of) T.fstretches_of cdv A outer s H E).nox.w = w from rfl]
  have t4 := t3.trans (same_new (o := SetO w p4 (fun j => decide (j ∈ rs1.map (·.1) ++ rs2.map (·.1))) m) np4)
  refine ⟨p4, _, m, rfl, upd_same, by omega, fun ks p5 srt mem len np5 => ?_⟩
  have t5 := t4.trans (same_new (o := .lst (ks.map V.int)) np5)
  refine ⟨p5, rfl, ⟨_, SqL.of upd_same⟩, ?_⟩
  have hF5 := t5 _ _ (upd_same : (upd H F (.lst [])) F = _)
  have hp5 : (upd (upd (upd H2 p3 (.lst ((rs1.map (·.1) ++ rs2.map (·.1)).map V.int))) p4 (SetO w p4 (fun j => decide (j ∈ rs1.map (·.1) ++ rs2.map (·.1))) m)) p5 (.lst (ks.map V.int))) p5 = some (.lst (ks.map V.int)) := upd_same
  have n5F : p5 ≠ F := fun z => by
    rw [z] at np5
    rw [t4 _ _ (upd_same : (upd H F (.lst [])) F = _)] at np5
    cases np5
  have sH := s0.trans t5
  have hks : ∀ k, k ∈ ks ↔ k ∈ rs1.map (·.1) ++ rs2.map (·.1) := fun k => (mem k).trans ⟨of_decide_eq_true, fun z => decide_eq_true z⟩
  generalize upd (upd (upd H2 p3 (.lst ((rs1.map (·.1) ++ rs2.map (·.1)).map V.int))) p4 (SetO w p4 (fun j => decide (j ∈ rs1.map (·.1) ++ rs2.map (·.1))) m)) p5 (.lst (ks.map V.int)) = He at *
  have neF : ∀ {b : Addr} {o : HO}, H b = some o → b ≠ F := fun hb z => by rw [z, nF] at hb; cases hb
  have k0 : ∀ k ∈ ks, 0 ≤ k := fun k hk => by
    rcases List.mem_append.mp ((hks k).mp hk) with z | z
    · obtain ⟨r, hr, rfl⟩ := List.mem_map.mp z
      exact (k1.small r hr).1
    · obtain ⟨r, hr, rfl⟩ := List.mem_map.mp z
      exact (k2.small r hr).1
  refine for_list (xs := ks.map V.int) (fun i σ H' => (∃ x3 x4 x5, σ = [some (.ref S1), some (.ref S2), some (.ref F), x3, x4, x5]) ∧ (∀ b o, b ≠ F → He b = some o → H' b = some o) ∧ ∃ (us : List V) (sts : List Stretch), H' F = some (.lst us) ∧ us.length = sts.length ∧ sts.map (·.1) = ks.take i ∧ (∀ u ∈ us, ∃ t, u = .ref t) ∧
      (∀ (j : Nat) (u : V) (st : Stretch), us[j]? = some u → sts[j]? = some st → StAt (ers F H') u st) ∧ ∀ st ∈ sts, StOfF rs1 rs2 st.1 st.2)
    ⟨⟨_, _, _, rfl⟩, fun b o _ h => h, [], [], hF5, rfl, rfl, (fun _ h => nomatch h), (fun j u st hu => by simp at hu), fun _ h => nomatch h⟩ (fun i σ H' _ hP => SqL.of (hP.2.1 _ _ n5F hp5)) (fun i x σ H3 hx hP => ?_) (fun σ H3 hP => ?_)
  · obtain ⟨⟨x3, x4, x5, rfl⟩, keep, us, sts, hF3, lus, hsk, hur, hus, hso⟩ := hP
    rw [List.getElem?_map] at hx
    obtain ⟨k, hki, rfl⟩ := Option.map_eq_some_iff.mp hx
    have hkm : k ∈ ks := List.mem_of_getElem? hki
    have kn := k0 k hkm
    have sH3 : Same H H3 := fun b o hb => keep b o (neF hb) (sH b o hb)
    have hli : i < ks.length := (List.getElem?_eq_some_iff.mp hki).1
    have lsts : sts.length = i := by
      have := congrArg List.length hsk
      rw [List.length_map, List.length_take] at this
      omega
    have get : ∀ {rs : List OG.Row} {us : List V} {ls : List Addr}, RowsAt H us rs ls → ROk rs → ∃ (u : V) (r : OG.Row) (l : Addr), us[rowIx rs k - 1]? = some u ∧ RowAt H u r l ∧ rowTs rs k = r.2 := fun {rs us ls} hR ro => by
      have hpos := ro.pos kn
      have hle := rowIx_le rs k
      have hl := hR.len.1
      obtain ⟨u, hu⟩ : ∃ u, us[rowIx rs k - 1]? = some u := ⟨_, List.getElem?_eq_getElem (by omega)⟩
      obtain ⟨r, l, hr, _, hra⟩ := hR.get hu
      exact ⟨u, r, l, hu, hra, rowTs_of hr⟩
    obtain ⟨u1, r1, m1, hu1, ⟨a1, rfl, ha1, hT1⟩, er1⟩ := get hR1 ro1
    obtain ⟨u2, r2, m2, hu2, ⟨a2, rfl, ha2, hT2⟩, er2⟩ := get hR2 ro2
    have kt1 := k1.ts k
    have kt2 := k2.ts k
    have few1 := kt1.few
    have few2 := kt2.few
    refine ⟨_, rfl, _, rfl, _, rfl, S1, rs1, ls1, k, rfl, hS1.same sH3, ro1, kn, S1, us1, _, _, rfl, rfl, SqL.of (sH3 _ _ hl1), atI_nat hu1, a1, _, 1, _, rfl, rfl, SqT.of (sH3 _ _ ha1), rfl, ?_⟩
    refine ⟨_, rfl, _, rfl, _, rfl, S2, rs2, ls2, k, rfl, hS2.same sH3, ro2, kn, S2, us2, _, _, rfl, rfl, SqL.of (sH3 _ _ hl2), atI_nat hu2, a2, _, 1, _, rfl, rfl, SqT.of (sH3 _ _ ha2), rfl, ?_⟩
    rw [← er1] at hT1
    rw [← er2] at hT2
    refine ⟨m1, m2, _, _, rfl, hT1.same sH3, hT2.same sH3, kt1.ok, kt2.ok, by omega, by omega, fun G H4 s4 hG nG => ?_⟩
    obtain ⟨dok, dnz, dval, dsm, dlen⟩ := lessF_facts kt1 kt2
    refine ⟨_, rfl, .inl ⟨rfl, _, SqL.of (s4 _ _ hF3)⟩, _, rfl, _, rfl, G, _, rfl, hG, dok, dnz, by omega, fun S mm ts H5 s5 nS hPw hmm hdv hperm hfall => ?_⟩
    have s45 := s4.trans s5
    have hF5' := s45 _ _ hF3
    have nSF : S ≠ F := fun z => by
      rw [z] at nS
      rw [s4 _ _ hF3] at nS
      cases nS
    refine ⟨(by show 2 ≤ sizeLine; decide), fun t nt => ?_⟩
    have st := same_new (o := .tup [.int k, .ref S]) nt
    have ntF : t ≠ F := (ne_of_none hF5' nt).symm
    refine ⟨F, us, _, rfl, rfl, st _ _ hF5', szl (by omega), ?_⟩
    have sAll := s45.trans st
    have em : Same (ers F H3) (ers F (upd (upd H5 t (.tup [.int k, .ref S])) F (.lst (us ++ [.ref t])))) := ers_mono fun b o nb hb => (upd_ne nb).trans (sAll b o hb)
    refine ⟨⟨_, _, _, rfl⟩, fun b o nb hb => (upd_ne nb).trans (sAll b o (keep b o nb hb)), us ++ [.ref t], sts ++ [(k, grp (ts.map (monoOf mm)))], upd_same, by rw [List.length_append, List.length_append, lus]; rfl, ?_, fun u hu => ?_, fun j u st' hu hst => ?_, fun st' hst => ?_⟩
    · rw [List.map_append, hsk, List.take_add_one, hki]
      rfl
    · rcases List.mem_append.mp hu with z | z
      · exact hur u z
      · exact ⟨t, List.mem_singleton.mp z⟩
    · by_cases hj : j < us.length
      · rw [List.getElem?_append_left hj] at hu
        rw [List.getElem?_append_left (by omega)] at hst
        exact (hus j u st' hu hst).same em
      · have hjl := (List.getElem?_eq_some_iff.mp hu).1
        rw [List.length_append] at hjl
        have hjl' : j < us.length + 1 := hjl
        obtain rfl : j = us.length := by omega
        rw [List.getElem?_concat_length] at hu
        cases hu
        rw [lus, List.getElem?_concat_length] at hst
        cases hst
        obtain ⟨vs, hv1, hv2, hv3⟩ := hPw
        refine ⟨t, S, rfl, (ers_ne ntF).trans ((upd_ne ntF).trans upd_same), vs, (ers_ne nSF).trans ((upd_ne nSF).trans (st _ _ hv1)), hv2, fun j' u' p' hu' hp' => ?_⟩
        obtain ⟨t', b', e1, e2, e3⟩ := hv3 j' u' p' hu' hp'
        have n1 : t' ≠ F := fun z => by rw [z, hF5'] at e2; cases e2
        have n2 : b' ≠ F := fun z => by
          have pne := (stOfF_facts k1 k2 ⟨mm, ts, rfl, hmm, hdv, hperm, hfall⟩).2.2.1 p' (List.mem_of_getElem? hp')
          obtain ⟨c0, cr, ec⟩ := List.exists_cons_of_ne_nil pne.1
          rw [z] at e3
          have e4 := hF5'.symm.trans e3
          have e5 := HO.lst.inj (Option.some.inj e4)
          obtain ⟨t0, e6⟩ := hur (.int c0) (by rw [e5, ec]; exact List.mem_cons_self)
          cases e6
        exact ⟨t', b', e1, (ers_ne n1).trans ((upd_ne n1).trans (st _ _ e2)), (ers_ne n2).trans ((upd_ne n2).trans (st _ _ e3))⟩
    · rcases List.mem_append.mp hst with z | z
      · exact hso st' z
      · rw [List.mem_singleton.mp z]
        exact ⟨mm, ts, rfl, hmm, hdv, hperm, hfall⟩
  · obtain ⟨⟨x3, x4, x5, rfl⟩, keep, us, sts, hF3, lus, hsk, hur, hus, hso⟩ := hP
    rw [List.length_map, List.take_length] at hsk
    refine ⟨_, rfl, q F sts H3 (fun b o hb => keep b o (neF hb) (sH b o hb)) ⟨us, hF3, lus, fun j u st hu hst => (hus j u st hu hst).same (ers_same F H3)⟩ ⟨hsk.symm ▸ srt, fun k => by rw [hsk]; exact hks k, ?_, hso⟩⟩
    have := congrArg List.length hsk
    rw [List.length_map] at this
    omega
end
end K18

set_option Elab.async false
set_option linter.all false
set_option maxRecDepth 100000
set_option maxHeartbeats 4000000
namespace K18
open PySem PySem.Spec PyProof.Rows L2 OG
open C8 (pss_cut pe_gc)
open OGX

section
variable {P : Program} {w : World} {K : PySem.W.Frag} {mg : Str → Option Value} {base : Heap}
theorem ok_set_rows (T : Tops K mg) (X : Exx K mg) : FnOk P w K mg base (L2.CX P w) 8 T.fsettled_rows T.dsettled_rows ["stretches", "sign"] (spSetRowsF X.CM) := by
  have Gfirst_low : FnOk P w K mg base CX0 4 T.ffirst_low T.dfirst_low ["stretch"] spFirstLowF := ok_first_low T
  have Gfigures_rows : FnOk P w K mg base CX0 6 T.ffigures_rows T.dfigures_rows ["powers", "low", "sign"] spFigRowsF := ok_fig_rows T
  have Gcheck_near : FnOk P w K mg base (L2.CX P w) 5 T.fcheck_near T.dcheck_near ["figures"] (spNearX X.CM) := ok_near T X
  have Gfalling_cells : FnOk P w K mg base CX0 2 T.ffalling_cells T.dfalling_cells ["stretches", "high"] spFallF := ok_fall T
  have Gput_in : FnOk P w K mg base CX0 2 T.fput_in T.dput_in ["powers", "figures"] spPutInF := ok_put_in T
  have Gsizes_rows : FnOk P w K mg base CX0 6 T.fsizes_rows T.dsizes_rows ["polynomial", "low", "high", "sign"] spSizesF := ok_sizes T
  refine T.Fsettled_rows.okX (k := 7) scsettled_rows (fun vs H Q E h => ?_) (fun cdv A outer s H vs Q E hr h => ?_)
  · obtain ⟨S, sts, ini, sl, p0, r, rs1, rs2, AA, NN, rfl, _⟩ := h
    rfl
  obtain ⟨S, sts, ini, sl, p0, r, rs1, rs2, AA, NN, rfl, hSt, k1, k2, hA, hN, hrel, htame, est, esl, q, qf⟩ := h
  refine ⟨_, (pss_cons (ps_set (i := 2) scsettled_rows.nd rfl (Or.inl rfl) (pe_call Gfirst_low (hr.mono (by omega)) (by rfl) T.gfirst_low T.Ffirst_low.kp T.bfirst_low .nil pass0 (pa_cons (pe_ix ix_list (pv 0) (pe_un un_neg pe_int) (fun _ _ => rfl)) pa_nil)))
 (pss_cons (ps_asg (pe_call Gfigures_rows (hr.mono (by omega)) (by rfl) T.gfigures_rows T.Ffigures_rows.kp T.bfigures_rows .nil pass0 (pa_cons (pe_ix ix_tup (pe_ix ix_list (pv 0) (pe_un un_neg pe_int) (fun _ _ => rfl)) pe_int (fun _ _ => rfl)) (pa_cons (pv 2) (pa_cons (pv 1) pa_nil)))) (pg_tup rfl (pgs_cons (pg_name (i := 3) scsettled_rows.nd rfl (Or.inl rfl)) (pgs_cons (pg_name (i := 4) scsettled_rows.nd rfl (Or.inl rfl)) pgs_nil))))
 (pss_cons (ps_if (pt_cmpR op_notN (pv 4) pe_non (nomark _))
  (pss_cons (ps_expr (pe_call Gcheck_near (hr.mono (by omega)) (by rfl) T.gcheck_near T.Fcheck_near.kp T.bcheck_near .nil (passes_call (takes_of rfl rfl rfl rfl) (fun _ _ _ _ h => h)) (pa_cons (pv 4) pa_nil)))
 (pss_one (ps_ret (pe_tup (pa_cons (pe_op op_oneShl pe_int (pv 4)) (pa_cons (pv 3) pa_nil))))))
  pss_nil)
 (pss_cons (ps_for (passes_of rfl) rfl (pi_list (pe_call Gfalling_cells (hr.mono (by omega)) (by rfl) T.gfalling_cells T.Ffalling_cells.kp T.bfalling_cells .nil pass0 (pa_cons (pv 0) (pa_cons (pe_op op_sub (pe_op op_oneShl pe_int (pe_op op_sub (pv 2) pe_int)) pe_int) pa_nil)))) (pg_tup rfl (pgs_cons (pg_name (i := 5) scsettled_rows.nd rfl (Or.inl rfl)) (pgs_cons (pg_name (i := 6) scsettled_rows.nd rfl (Or.inl rfl)) (pgs_cons (pg_name (i := 7) scsettled_rows.nd rfl (Or.inl rfl)) (pgs_cons (pg_name (i := 8) scsettled_rows.nd rfl (Or.inl rfl)) pgs_nil)))))
  (pss_cons (ps_asg (pe_call Gsizes_rows (hr.mono (by omega)) (by rfl) T.gsizes_rows T.Fsizes_rows.kp T.bsizes_rows .nil pass0 (pa_cons (pe_call Gput_in (hr.mono (by omega)) (by rfl) T.gput_in T.Fput_in.kp T.bput_in .nil pass0 (pa_cons (pv 8) (pa_cons (pv 5) pa_nil))) (pa_cons (pv 6) (pa_cons (pv 7) (pa_cons (pv 1) pa_nil))))) (pg_tup rfl (pgs_cons (pg_name (i := 9) scsettled_rows.nd rfl (Or.inl rfl)) (pgs_cons (pg_name (i := 10) scsettled_rows.nd rfl (Or.inl rfl)) pgs_nil))))
 (pss_cons (ps_expr (pe_bm PySem.F.plainAttrs_list PySem.F.slot_list_extend PySem.F.type_list_extend mt_extend (pv 3) (pa_cons (pv 9) pa_nil)))
 (pss_one (ps_if (pt_cmpR op_notN (pv 10) pe_non (nomark _))
  (pss_cons (ps_expr (pe_call Gcheck_near (hr.mono (by omega)) (by rfl) T.gcheck_near T.Fcheck_near.kp T.bcheck_near .nil (passes_call (takes_of rfl rfl rfl rfl) (fun _ _ _ _ h => h)) (pa_cons (pv 5) pa_nil)))
 (pss_one (ps_ret (pe_tup (pa_cons (pe_op op_add (pv 10) pe_int) (pa_cons (pv 3) pa_nil))))))
  pss_nil)))))
 (pss_one (ps_ret (pe_tup (pa_cons pe_int (pa_cons (pv 3) pa_nil))))))))), ?_⟩
  obtain ⟨hld, hsl⟩ := hrel.leadOk k1 k2 hA htame est esl
  generalize hs : sgX (lastC p0.2) = s at *
  obtain ⟨us0, hS, lus0, hus0⟩ := id hSt
  have hslm : sl ∈ sts := by rw [est]; exact List.mem_append_right _ List.mem_cons_self
  have lsts : sts.length = ini.length + 1 := by rw [est, List.length_append]; rfl
  obtain ⟨hO, hpos, hsign⟩ := hrel.facts k1 k2
  have hmay230 := hrel.may k1 k2 hN hslm hsl
  obtain ⟨ui, ul, eus⟩ : ∃ ui ul, us0 = ui ++ [ul] := by
    rcases List.eq_nil_or_concat us0 with e | ⟨r0, c0, e⟩
    · rw [e] at lus0
      have : 0 = sts.length := lus0
      omega
    · exact ⟨r0, c0, by rw [e, List.concat_eq_append]⟩
  have lui : ui.length = ini.length := by
    rw [eus, List.length_append] at lus0
    have : ui.length + 1 = sts.length := lus0
    omega
  have hul : us0[ini.length]? = some ul := by rw [eus, ← lui]; simp
  have hsli : sts[ini.length]? = some sl := by rw [est]; simp
  have hStl : StAt H ul sl := hus0 _ ul sl hul hsli
  have hat : atI us0 (-1) = some ul := by rw [eus]; exact atI_last _ _
  have hfalls : sl.2.Pairwise fun a b => b.1 < a.1 := (stOfF_facts k1 k2 (hrel.of sl hslm)).1.falls
  have tells : ∀ {ws : List WRow} {a : Int}, Chn sts sl p0.2 s ws a → 0 ≤ a ∧ ∀ n, a ≤ n → sgX (dfc sts n) = s := fun h => h.tells est hO.rises esl hfalls hld.s0
  refine ⟨_, rfl, 1, rfl, S, us0, -1, ul, rfl, rfl, SqL.of hS, hat, ul, sl, 122, 230, rfl, hStl, hsl, by decide, by decide, by decide, hmay230, fun low H1 s1 hlow1 hlow hmay => ?_⟩
  obtain ⟨tl', ll, rfl, htl, hpw⟩ := hStl.same s1
  rw [esl] at hpw
  refine ⟨_, rfl, 1, rfl, S, us0, -1, _, rfl, rfl, SqL.of (s1 _ _ hS), hat, tl', _, 1, _, rfl, rfl, SqT.of htl, rfl, _, rfl, _, rfl, ll, sts, sl, p0, r, 122, (low : Int), s, rfl, hpw, esl, hsl, hld, by decide, by decide, by omega, hmay, fun t lr us1 rs v H2 s2 nlr ht hlr hWs l1 hres => ?_⟩
  have s02 := s1.trans s2
  have nlrH : H lr = none := s1.free nlr
  refine ⟨t, _, rfl, SqT.of ht, rfl, _, _, rfl, _, _, rfl, rfl, ?_⟩
  rcases hres with ⟨rfl, hch⟩ | ⟨f, rfl, hf1, hf2, hch⟩
  · refine ⟨_, rfl, rfl, _, rfl, iteF ?_⟩
    have hSt2 := hSt.same s02
    have pp : (0 : Int) < 2 ^ (low - 1) := Int.pow_pos (by decide)
    rw [show (low : Int).toNat - 1 = low - 1 by omega] at hch
    have hsll : sl.1 < 2 ^ (low - 1) := by
      have f1 := figs_lt (hpos sl hslm).1
      have f2 := hmay.1
      unfold leastOf at f2
      exact Int.lt_of_lt_of_le f1 (pow2_le (by omega))
    have hle : ∀ st ∈ sts, st.1 ≤ sl.1 := fun st hst => by
      have hrise := hO.rises
      rw [est] at hst hrise
      rcases List.mem_append.mp hst with z | z
      · rw [List.map_append] at hrise
        have := (List.pairwise_append.mp hrise).2.2 st.1 (List.mem_map.mpr ⟨st, z, rfl⟩) sl.1 List.mem_cons_self
        omega
      · rw [List.mem_singleton.mp z]
        exact Int.le_refl _
    refine ⟨_, rfl, _, rfl, (low : Int), 1, rfl, rfl, low - 1, rfl, congrArg V.int (by omega), by omega, _, 1, rfl, rfl, S, sts, (2 : Int) ^ (low - 1) - 1, low - 1, rfl, hSt2, hO, by omega, by omega, by omega, fun st hst => by have := hle st hst; omega, fun b us cs H3 s3 nb hb hcs lcs hP => ?_⟩
    obtain ⟨lus, hus⟩ := hcs
    have s03 := s02.trans s3
    have hlr3 := s3 _ _ hlr
    have nbl : b ≠ lr := (ne_of_none hlr nb).symm
    have csn : cs ≠ [] := fun z => by
      rw [z] at hP
      have : (2 : Int) ^ (low - 1) - 1 < 0 := hP
      omega
    have cpos := List.length_pos_iff.mpr csn
    refine ⟨b, rfl, ⟨_, SqL.of hb⟩, ?_⟩
    refine for_list (xs := us.reverse) (fun i σ H' => (∃ x5 x6 x7 x8 x9 x10, σ = [some (.ref S), some (.int s), some (.int low), some (.ref lr), some .non, x5, x6, x7, x8, x9, x10]) ∧ Same H H' ∧ (∀ d u, H3 d = some u → d ≠ lr → H' d = some u) ∧ ∃ (ws : List V) (rs : List WRow) (cur : Int), H' lr = some (.lst ws) ∧ WsAt H' ws rs ∧ ws.length ≤ 1000000 + 59049 * i ∧ Chn sts sl p0.2 s rs cur ∧ (∀ c, i < cs.length → cs[cs.length - 1 - i]? = some c → cur = c.z + 1) ∧ (i = cs.length → cur = 0))
      ⟨⟨_, _, _, _, _, _, rfl⟩, s03, (fun d u e _ => e), us1, rs, _, hlr3, hWs.to (Imm.same s3), by omega, hch, (fun c hi hc => by have := (hP.get hc).2.2.2.2.2.2.1 (by omega); omega), fun z => by omega⟩ (fun i σ H' _ hP' => SqL.of (hP'.2.2.1 _ _ hb nbl)) (fun i x σ H4 hx hP' => ?_) (fun σ H4 hP' => ?_)
    · obtain ⟨⟨x5, x6, x7, x8, x9, x10, rfl⟩, s4, k4, ws, rs, cur, hws, hWs, lws, hch, hab, _⟩ := hP'
      have hi : i < us.length := by
        have := (List.getElem?_eq_some_iff.mp hx).1
        rwa [List.length_reverse] at this
      rw [List.getElem?_reverse hi] at hx
      obtain ⟨cc, hcc⟩ : ∃ cc, cs[us.length - 1 - i]? = some cc := ⟨_, List.getElem?_eq_getElem (by omega)⟩
      obtain ⟨t2, l2, rfl, ht2, hlo⟩ := hus _ x cc hx hcc
      rw [lus] at hcc
      have ecur := hab cc (by omega) hcc
      subst ecur
      obtain ⟨g1, g2, g3, g4, g5, g6, g7, g8⟩ := hP.get hcc
      have nt2 : t2 ≠ lr := ne_of ht2 hlr3 (fun z => by cases z)
      obtain ⟨hpw2, st2, hst2, epw⟩ := hlo.at hSt2
      have hL : (cc.L : Int) = figs cc.a := ((g4 cc.a (Int.le_refl _) g1).1).symm
      have f229 : figs cc.a ≤ low - 1 := figs_le_of g2 (by omega)
      obtain ⟨pf, pfew, ppolys, _⟩ := stOfF_facts k1 k2 (hrel.of st2 hst2)
      rw [← epw] at pf pfew ppolys
      have e8n : (2 : Nat) ^ 8 = 256 := by decide
      have lnn : cc.L.natAbs < 2 ^ 8 := by omega
      have cfp : ∀ p ∈ cc.pw, Cf 122 p.2 := fun p hp c hc => by
        have := (ppolys p hp).2.2.2 c hc
        omega
      have pok : ∀ p ∈ cc.pw, POk p.2 cc.L := fun p hp => by
        have lp := (ppolys p hp).2.1
        exact ⟨by omega, 122, 8, cfp p hp, lnn, by decide, by omega⟩
      have pbits : ∀ p ∈ cc.pw, (ev p.2 cc.L).natAbs < 2 ^ 212 := fun p hp => by
        have lp := (ppolys p hp).2.1
        exact Nat.lt_of_lt_of_le (ev_bits lnn (cfp p hp)) (Nat.pow_le_pow_right (by decide) (by omega))
      refine ⟨t2, _, rfl, SqT.of (k4 _ _ ht2 nt2), rfl, _, _, rfl, _, _, rfl, _, _, rfl, _, _, rfl, rfl, ?_⟩
      have hpw4 : PwAt H4 l2 cc.pw := (hlo.base hSt s02).same s4
      refine ⟨_, rfl, _, rfl, l2, cc.pw, cc.L, 212, 10, rfl, hpw4, pf, by decide, by omega, pok, pbits, fun qb qq H5 s5 nqb hqb hev lq cq htr => ?_⟩
      have pow229 : (2 : Int) ^ (low - 1) ≤ 2 ^ 229 := pow2_le (by omega)
      have c229 : ((2 ^ 229 : Nat) : Int) = 2 ^ 229 := Int.natCast_pow 2 229
      have a60 : cc.a.natAbs < 2 ^ 229 := by omega
      have z60 : cc.z.natAbs < 2 ^ 229 := by omega
      refine ⟨_, rfl, _, rfl, _, rfl, qb, qq, cc.a, cc.z, s, rfl, hqb, g1, lq, difk_pin cq lq a60 z60 (by decide) (by decide), fun t3 lr3 us3 rs3 v3 H6 s6 nlr3 ht3 hlr6 hWs3 l3 hres3 => ?_⟩
      have s56 := s5.trans s6
      have hws6 := s56 _ _ hws
      have l59 : us3.length ≤ 59049 := Nat.le_trans l3 (Nat.le_trans (Nat.pow_le_pow_right (by decide) (show qq.length - 1 + 1 ≤ 10 by omega)) (by decide))
      have nlr36 : lr3 ≠ lr := (ne_of_none (s5 _ _ hws) nlr3).symm
      have ics : i < cs.length := by omega
      refine ⟨t3, _, rfl, SqT.of ht3, rfl, _, _, rfl, _, _, rfl, rfl, ?_⟩
      refine ⟨_, rfl, .inl ⟨rfl, _, SqL.of hws6⟩, _, rfl, lr, lr3, ws, us3, rfl, rfl, hws6, hlr6, ?_, ?_⟩
      · rw [sizeLine_eq]
        omega
      have s46 : Same H (upd H6 lr (.lst (ws ++ us3))) := Same.upd_new (s4.trans s56) nlrH
      have k6 : ∀ d u, H3 d = some u → d ≠ lr → (upd H6 lr (.lst (ws ++ us3))) d = some u := fun d u e n => by
        rw [upd_ne n]
        exact s56 _ _ (k4 d u e n)
      have i6 : Imm H6 (upd H6 lr (.lst (ws ++ us3))) := imm_upd (Same.refl H6) hws6
      have hWs6 : WsAt (upd H6 lr (.lst (ws ++ us3))) (ws ++ us3) (rs ++ rs3) := ((hWs.to (Imm.same s56)).app hWs3).to i6
      rcases hres3 with ⟨rfl, hdn⟩ | ⟨m, rfl, m1, m2, m3, hdn⟩
      · refine ⟨_, rfl, rfl, _, rfl, iteF ?_⟩
        have hch' := hch.down hdn g2 (Int.le_refl _) (Int.le_refl _) g4 htr hev
        refine ⟨⟨_, _, _, _, _, _, rfl⟩, s46, k6, ws ++ us3, rs ++ rs3, cc.a, upd_same, hWs6, by rw [List.length_append]; omega, hch', fun c0 hi0 hc0 => ?_, fun hlast => g6 (by omega)⟩
        have hk : cs.length - 1 - (i + 1) + 1 = cs.length - 1 - i := by omega
        have u8 := (hP.get hc0).2.2.2.2.2.2.2 cc (by rw [hk]; exact hcc)
        omega
      · refine ⟨_, rfl, rfl, _, rfl, iteT ?_⟩
        have hch' := hch.down hdn g2 (by omega) (Int.le_refl _) g4 htr hev
        refine ⟨_, rfl, cc.L, rfl, fun _ => ?_, fun z => by omega⟩
        refine ⟨_, rfl, m, 1, rfl, rfl, _, rfl, (by show 2 ≤ sizeLine; decide), fun t4 nt4 => ?_⟩
        have s7 := same_new (o := .tup [.int (m + 1), .ref lr]) nt4
        refine q t4 lr (ws ++ us3) (rs ++ rs3) (m + 1) _ (s46.trans s7) upd_same (s7 _ _ upd_same) (hWs6.to (Imm.same s7)) hch' (fun _ => ?_) ?_
        · rw [Int.add_sub_cancel]
          obtain ⟨z1, z2⟩ := g4 m m1 m2
          have : dfc sts m = ev qq m := by
            unfold dfc
            rw [z1, z2, hev]
          rw [this]
          exact m3
        · have := pow2_le (i := 229) (j := 2000) (by decide)
          omega
    · obtain ⟨⟨x5, x6, x7, x8, x9, x10, rfl⟩, s4, k4, ws, rs, cur, hws, hWs, lws, hch, _, hcur⟩ := hP'
      have ecur := hcur (by rw [List.length_reverse]; exact lus)
      subst ecur
      refine ⟨_, rfl, (by show 2 ≤ sizeLine; decide), fun t4 nt4 => ?_⟩
      have s5 := same_new (o := .tup [.int 0, .ref lr]) nt4
      exact q t4 lr ws rs 0 _ (s4.trans s5) upd_same (s5 _ _ hws) (hWs.to (Imm.same s5)) hch (fun z => by omega) (Int.le_of_lt (Int.pow_pos (by decide)))
  · refine ⟨_, rfl, rfl, _, rfl, iteT ?_⟩
    have pf : (0 : Int) < 2 ^ f.toNat := Int.pow_pos (by decide)
    have e2 : (2 : Int) ^ f.toNat = 2 ^ (f.toNat - 1) * 2 := by
      obtain ⟨k, hk⟩ : ∃ k, f.toNat = k + 1 := ⟨f.toNat - 1, by omega⟩
      rw [hk]
      exact Int.pow_succ 2 k
    have pf1 : (0 : Int) < 2 ^ (f.toNat - 1) := Int.pow_pos (by decide)
    -- the sizes of f figures are wrong
    have fw : figs (2 ^ f.toNat - 1) = f.toNat := by
      have := figs_iff (n := 2 ^ f.toNat - 1) (by omega) (f.toNat - 1) (by omega) (by rw [show f.toNat - 1 + 1 = f.toNat by omega]; omega)
      omega
    have wrong : sgX (dfc sts (2 ^ f.toNat - 1)) ≠ s := by
      have m' := hmay.mono (g := f) hf1
      rw [(lead_tells est hO.rises esl hfalls (by omega) (f := f) (by rw [fw]; omega) m').2.2]
      exact hf2
    refine ⟨_, rfl, f, rfl, fun hle => ?_, fun hgt dd H' s' nd hd => ?_⟩
    · refine ⟨_, rfl, f.toNat, rfl, congrArg V.int (by omega), by omega, _, rfl, (by show 2 ≤ sizeLine; decide), fun t4 nt4 => ?_⟩
      have s7 := same_new (o := .tup [.int (2 ^ f.toNat), .ref lr]) nt4
      exact q t4 lr us1 rs _ _ (s02.trans s7) upd_same (s7 _ _ hlr) (hWs.to (Imm.same s7)) hch (fun _ => wrong) (pow2_le (by omega))
    · exact qf (2 ^ f.toNat - 1) (by omega) wrong (by rw [fw]; omega) dd H' (s02.trans s') (s02.free nd) hd
end
end K18

set_option Elab.async false
set_option linter.all false
set_option maxRecDepth 100000
set_option maxHeartbeats 4000000
namespace K18
open PySem PySem.Spec PyProof.Rows L2 OG
open C8 (pss_cut pe_gc)
open OGX

section
variable {P : Program} {w : World} {K : PySem.W.Frag} {mg : Str → Option Value} {base : Heap}
theorem ok_alike (T : Tops K mg) (X : Exx K mg) : FnOk P w K mg base (L2.CX P w) 8 T.falike_from T.dalike_from ["stretches"] (spAlikeF X.CM) := by
  have Gcheck_near : FnOk P w K mg base (L2.CX P w) 5 T.fcheck_near T.dcheck_near ["figures"] (spNearX X.CM) := ok_near T X
  have Gfalling_cells : FnOk P w K mg base CX0 2 T.ffalling_cells T.dfalling_cells ["stretches", "high"] spFallF := ok_fall T
  have Gput_in : FnOk P w K mg base CX0 2 T.fput_in T.dput_in ["powers", "figures"] spPutInF := ok_put_in T
  have Glast_unlike : FnOk P w K mg base CX0 3 T.flast_unlike T.dlast_unlike ["polynomial", "low", "high"] spUnlike := ok_unlike T
  refine T.Falike_from.okX (k := 7) scalike_from (fun vs H Q E h => ?_) (fun cdv A outer s H vs Q E hr h => ?_)
  · obtain ⟨S, sts, ini, sl, rs1, rs2, AA, NN, rfl, _⟩ := h
    rfl
  obtain ⟨S, sts, ini, sl, rs1, rs2, AA, NN, rfl, hSt, k1, k2, hA, hN, hrel, htame, est, esl, q, qf⟩ := h
  refine ⟨_, (pss_cons (ps_for (passes_of rfl) rfl (pi_list (pe_call Gfalling_cells (hr.mono (by omega)) (by rfl) T.gfalling_cells T.Ffalling_cells.kp T.bfalling_cells .nil pass0 (pa_cons (pv 0) (pa_cons (pe_op op_sub (pe_ix ix_tup (pe_ix ix_list (pv 0) (pe_un un_neg pe_int) (fun _ _ => rfl)) pe_int (fun _ _ => rfl)) pe_int) pa_nil)))) (pg_tup rfl (pgs_cons (pg_name (i := 1) scalike_from.nd rfl (Or.inl rfl)) (pgs_cons (pg_name (i := 2) scalike_from.nd rfl (Or.inl rfl)) (pgs_cons (pg_name (i := 3) scalike_from.nd rfl (Or.inl rfl)) (pgs_cons (pg_name (i := 4) scalike_from.nd rfl (Or.inl rfl)) pgs_nil)))))
  (pss_cons (ps_set (i := 5) scalike_from.nd rfl (Or.inl rfl) (pe_call Glast_unlike (hr.mono (by omega)) (by rfl) T.glast_unlike T.Flast_unlike.kp T.blast_unlike .nil pass0 (pa_cons (pe_call Gput_in (hr.mono (by omega)) (by rfl) T.gput_in T.Fput_in.kp T.bput_in .nil pass0 (pa_cons (pv 4) (pa_cons (pv 1) pa_nil))) (pa_cons (pv 2) (pa_cons (pv 3) pa_nil)))))
 (pss_one (ps_if (pt_cmpR op_notN (pv 5) pe_non (nomark _))
  (pss_cons (ps_expr (pe_call Gcheck_near (hr.mono (by omega)) (by rfl) T.gcheck_near T.Fcheck_near.kp T.bcheck_near .nil (passes_call (takes_of rfl rfl rfl rfl) (fun _ _ _ _ h => h)) (pa_cons (pv 1) pa_nil)))
 (pss_one (ps_ret (pe_op op_add (pv 5) pe_int))))
  pss_nil))))
 (pss_one (ps_ret pe_int))), ?_⟩
  obtain ⟨us0, hS, lus0, hus0⟩ := id hSt
  have hslm : sl ∈ sts := by rw [est]; exact List.mem_append_right _ List.mem_cons_self
  have lsts : sts.length = ini.length + 1 := by rw [est, List.length_append]; rfl
  obtain ⟨hO, hpos, hsign⟩ := hrel.facts k1 k2
  obtain ⟨ui, ul, eus⟩ : ∃ ui ul, us0 = ui ++ [ul] := by
    rcases List.eq_nil_or_concat us0 with e | ⟨r0, c0, e⟩
    · rw [e] at lus0
      have : 0 = sts.length := lus0
      omega
    · exact ⟨r0, c0, by rw [e, List.concat_eq_append]⟩
  have lui : ui.length = ini.length := by
    rw [eus, List.length_append] at lus0
    have : ui.length + 1 = sts.length := lus0
    omega
  have hul : us0[ini.length]? = some ul := by rw [eus, ← lui]; simp
  have hsl : sts[ini.length]? = some sl := by rw [est]; simp
  have hat : atI us0 (-1) = some ul := by rw [eus]; exact atI_last _ _
  have sl0 := (hpos sl hslm).1
  have sl59 := (htame ini sl est).1 esl
  obtain ⟨tl', ll, rfl, htl, hpw⟩ := hus0 _ ul sl hul hsl
  have e59 : (2 : Int) ^ 59 = 576460752303423488 := by decide
  have e60 : (2 : Nat) ^ 60 = 1152921504606846976 := by decide
  have hrise := hO.rises
  have hle : ∀ st ∈ sts, st.1 ≤ sl.1 := fun st hst => by
    rw [est] at hst hrise
    rcases List.mem_append.mp hst with z | z
    · rw [List.map_append] at hrise
      have := (List.pairwise_append.mp hrise).2.2 st.1 (List.mem_map.mpr ⟨st, z, rfl⟩) sl.1 List.mem_cons_self
      omega
    · rw [List.mem_singleton.mp z]
      exact Int.le_refl _
  have far : ∀ n, sl.1 - 1 < n → sgX (dfc sts n) = 0 := fun n hn => by
    unfold dfc
    rw [est]
    rw [est] at hrise
    rw [stPw_last hrise (by omega), esl]
    rfl
  refine ⟨_, rfl, _, rfl, 1, rfl, S, us0, -1, _, rfl, rfl, SqL.of hS, hat, tl', _, 0, _, rfl, rfl, SqT.of htl, rfl, _, 1, rfl, rfl, S, sts, sl.1 - 1, 59, rfl, hSt, hO, by omega, by omega, by omega, fun st hst => by have := hle st hst; omega, fun b us cs H3 s3 nb hb hcs lcs hP => ?_⟩
  obtain ⟨lus, hus⟩ := hcs
  refine ⟨b, rfl, ⟨_, SqL.of hb⟩, ?_⟩
  refine for_list (xs := us.reverse) (fun i σ H' => (∃ x1 x2 x3 x4 x5, σ = [some (.ref S), x1, x2, x3, x4, x5]) ∧ Same H H' ∧ Same H3 H' ∧ (∀ c, i < cs.length → cs[cs.length - 1 - i]? = some c → ∀ n, c.z < n → sgX (dfc sts n) = 0) ∧ (i = cs.length → ∀ n, 0 ≤ n → sgX (dfc sts n) = 0))
    ⟨⟨_, _, _, _, _, rfl⟩, s3, Same.refl _, (fun c hi hc n hn => far n (by have := (hP.get hc).2.2.2.2.2.2.1 (by omega); omega)), fun z n hn => ?_⟩ (fun i σ H' _ hP' => SqL.of (hP'.2.2.1 _ _ hb)) (fun i x σ H4 hx hP' => ?_) (fun σ H4 hP' => ?_)
  · have e : cs = [] := List.eq_nil_of_length_eq_zero z.symm
    rw [e] at hP
    have : sl.1 - 1 < 0 := hP
    exact far n (by omega)
  · obtain ⟨⟨x1, x2, x3, x4, x5, rfl⟩, s4, k4, hab, _⟩ := hP'
    have hi : i < us.length := by
      have := (List.getElem?_eq_some_iff.mp hx).1
      rwa [List.length_reverse] at this
    rw [List.getElem?_reverse hi] at hx
    obtain ⟨cc, hcc⟩ : ∃ cc, cs[us.length - 1 - i]? = some cc := ⟨_, List.getElem?_eq_getElem (by omega)⟩
    obtain ⟨t2, l2, rfl, ht2, hlo⟩ := hus _ x cc hx hcc
    rw [lus] at hcc
    have above := hab cc (by omega) hcc
    obtain ⟨g1, g2, g3, g4, g5, g6, g7, g8⟩ := hP.get hcc
    obtain ⟨_, st2, hst2, epw⟩ := hlo.at hSt
    have hL : (cc.L : Int) = figs cc.a := ((g4 cc.a (Int.le_refl _) g1).1).symm
    have f59 : figs cc.a ≤ 59 := figs_le_of g2 (by omega)
    obtain ⟨pf, pfew, ppolys, _⟩ := stOfF_facts k1 k2 (hrel.of st2 hst2)
    rw [← epw] at pf pfew ppolys
    have e8n : (2 : Nat) ^ 8 = 256 := by decide
    have lnn : cc.L.natAbs < 2 ^ 8 := by omega
    have cfp : ∀ p ∈ cc.pw, Cf 122 p.2 := fun p hp c hc => by
      have := (ppolys p hp).2.2.2 c hc
      omega
    have pok : ∀ p ∈ cc.pw, POk p.2 cc.L := fun p hp => by
      have lp := (ppolys p hp).2.1
      exact ⟨by omega, 122, 8, cfp p hp, lnn, by decide, by omega⟩
    have pbits : ∀ p ∈ cc.pw, (ev p.2 cc.L).natAbs < 2 ^ 212 := fun p hp => by
      have lp := (ppolys p hp).2.1
      exact Nat.lt_of_lt_of_le (ev_bits lnn (cfp p hp)) (Nat.pow_le_pow_right (by decide) (by omega))
    have hpw4 : PwAt H4 l2 cc.pw := (hlo.base hSt (Same.refl H)).same s4
    have hG : ∀ n, cc.a ≤ n → n ≤ cc.z → dfc sts n = pwEv cc.pw cc.L n := fun n n1 n2 => by
      obtain ⟨z1, z2⟩ := g4 n n1 n2
      unfold dfc
      rw [z1, z2]
    refine ⟨t2, _, rfl, SqT.of (k4 _ _ ht2), rfl, _, _, rfl, _, _, rfl, _, _, rfl, _, _, rfl, rfl, ?_⟩
    refine ⟨_, rfl, _, rfl, l2, cc.pw, cc.L, 212, 10, rfl, hpw4, pf, by decide, by omega, pok, pbits, fun qb qq H5 s5 nqb hqb hev lq cq htr => ?_⟩
    have a60 : cc.a.natAbs < 2 ^ 60 := by omega
    have z60 : cc.z.natAbs < 2 ^ 60 := by omega
    refine ⟨_, rfl, _, rfl, qb, qq, cc.a, cc.z, rfl, hqb, g1, difk_pin cq lq a60 z60 (by decide) (by decide) 0, a60, z60, by omega, fun v3 hL3 => ?_⟩
    rcases hL3 with ⟨rfl, hall⟩ | ⟨m, rfl, m1, m2, m3, m4⟩
    · refine ⟨_, rfl, rfl, _, rfl, iteF ?_⟩
      refine ⟨⟨_, _, _, _, _, rfl⟩, s4.trans s5, k4.trans s5, fun c0 hi0 hc0 n hn => ?_, fun hlast n hn => ?_⟩
      · have hk : cs.length - 1 - (i + 1) + 1 = cs.length - 1 - i := by omega
        have u8 := (hP.get hc0).2.2.2.2.2.2.2 cc (by rw [hk]; exact hcc)
        by_cases hz : n ≤ cc.z
        · rw [hG n (by omega) hz, ← hev n]
          exact hall n (by omega) hz
        · exact above n (by omega)
      · have e0 := g6 (by omega)
        by_cases hz : n ≤ cc.z
        · rw [hG n (by omega) hz, ← hev n]
          exact hall n (by omega) hz
        · exact above n (by omega)
    · refine ⟨_, rfl, rfl, _, rfl, iteT ?_⟩
      refine ⟨_, rfl, cc.L, rfl, fun _ => ?_, fun z => by omega⟩
      refine ⟨_, rfl, m, 1, rfl, rfl, q (m + 1) _ (s4.trans s5) ⟨by omega, fun n hn => ?_, fun _ => ?_⟩ ?_⟩
      · by_cases hz : n ≤ cc.z
        · rw [hG n (by omega) hz, ← hev n]
          exact m4 n (by omega) hz
        · exact above n (by omega)
      · rw [Int.add_sub_cancel, hG m m1 m2, ← hev m]
        exact m3
      · have := pow2_le (i := 59) (j := 2000) (by decide)
        omega
  · obtain ⟨⟨x1, x2, x3, x4, x5, rfl⟩, s4, k4, _, hall⟩ := hP'
    refine q 0 H4 s4 ⟨Int.le_refl _, hall ?_, fun z => by omega⟩ (Int.le_of_lt (Int.pow_pos (by decide)))
    rw [List.length_reverse]
    exact lus
theorem ok_settled (T : Tops K mg) (X : Exx K mg) : FnOk P w K mg base (L2.CX P w) 9 T.fsettled T.dsettled ["one", "other"] (spSettledF X.CM) := by
  have Gstretches_of : FnOk P w K mg base CX0 6 T.fstretches_of T.dstretches_of ["one", "other"] spStretchesF := ok_stretches_of T
  have Galike_from : FnOk P w K mg base (L2.CX P w) 8 T.falike_from T.dalike_from ["stretches"] (spAlikeF X.CM) := ok_alike T X
  have Gsettled_rows : FnOk P w K mg base (L2.CX P w) 8 T.fsettled_rows T.dsettled_rows ["stretches", "sign"] (spSetRowsF X.CM) := ok_set_rows T X
  have Gsign_of : FnOk P w K mg base CX0 1 T.fsign_of T.dsign_of ["number"] spSg := ok_sg T
  refine T.Fsettled.okX (k := 8) scsettled (fun vs H Q E h => ?_) (fun cdv A outer s H vs Q E hr h => ?_)
  · obtain ⟨S1, rs1, ls1, S2, rs2, ls2, AA, NN, rfl, _⟩ := h
    rfl
  obtain ⟨S1, rs1, ls1, S2, rs2, ls2, AA, NN, rfl, h1, h2, k1, k2, hA, hN, htm, q, qf⟩ := h
  refine ⟨_, (pss_cons (ps_set (i := 2) scsettled.nd rfl (Or.inl rfl) (pe_call Gstretches_of (hr.mono (by omega)) (by rfl) T.gstretches_of T.Fstretches_of.kp T.bstretches_of .nil pass0 (pa_cons (pv 0) (pa_cons (pv 1) pa_nil))))
 (pss_cons (ps_set (i := 3) scsettled.nd rfl (Or.inl rfl) (pe_ix ix_tup (pe_ix ix_list (pv 2) (pe_un un_neg pe_int) (fun _ _ => rfl)) pe_int (fun _ _ => rfl)))
 (pss_cons (ps_if (pt_not (pt_truth (pv 3) (by intro _; rfl)))
  (pss_cons (ps_set (i := 6) scsettled.nd rfl (Or.inl rfl) (pe_call Galike_from (hr.mono (by omega)) (by rfl) T.galike_from T.Falike_from.kp T.balike_from .nil (passes_call (takes_of rfl rfl rfl rfl) (fun _ _ _ _ h => h)) (pa_cons (pv 2) pa_nil)))
 (pss_one (ps_ret (pe_tup (pa_cons pe_str (pa_cons (pv 6) (pa_cons (pe_lst (pa_cons (pe_tup (pa_cons pe_str (pa_cons (pv 6) (pa_cons pe_non pa_nil)))) pa_nil)) pa_nil)))))))
  pss_nil)
 (pss_cons (ps_set (i := 4) scsettled.nd rfl (Or.inl rfl) (pe_ix ix_tup (pe_ix ix_list (pv 3) pe_int (fun _ _ => rfl)) pe_int (fun _ _ => rfl)))
 (pss_cons (ps_set (i := 5) scsettled.nd rfl (Or.inl rfl) (pe_call Gsign_of (hr.mono (by omega)) (by rfl) T.gsign_of T.Fsign_of.kp T.bsign_of .nil pass0 (pa_cons (pe_ix ix_list (pv 4) (pe_un un_neg pe_int) (fun _ _ => rfl)) pa_nil)))
 (pss_cons (ps_asg (pe_call Gsettled_rows (hr.mono (by omega)) (by rfl) T.gsettled_rows T.Fsettled_rows.kp T.bsettled_rows .nil (passes_call (takes_of rfl rfl rfl rfl) (fun _ _ _ _ h => h)) (pa_cons (pv 2) (pa_cons (pv 5) pa_nil))) (pg_tup rfl (pgs_cons (pg_name (i := 6) scsettled.nd rfl (Or.inl rfl)) (pgs_cons (pg_name (i := 7) scsettled.nd rfl (Or.inl rfl)) pgs_nil))))
 (pss_one (ps_ret (pe_tup (pa_cons (pe_ifExp (pt_cmpR op_gt (pv 5) pe_int (nomark _)) pe_str pe_str) (pa_cons (pv 6) (pa_cons (pe_revL (pv 7)) pa_nil)))))))))))), ?_⟩
  refine ⟨_, rfl, _, rfl, S1, rs1, ls1, S2, rs2, ls2, AA, NN, rfl, h1, h2, k1, k2, fun S sts H1 s1 hSt hrel => ?_⟩
  have htame := htm sts hrel
  obtain ⟨hO, hpos, hsign⟩ := hrel.facts k1 k2
  obtain ⟨us0, hS, lus0, hus0⟩ := id hSt
  obtain ⟨ini, sl, est⟩ : ∃ ini sl, sts = ini ++ [sl] := by
    rcases List.eq_nil_or_concat sts with e | ⟨r0, c0, e⟩
    · have := hO.first
      rw [e] at this
      cases this
    · exact ⟨r0, c0, by rw [e, List.concat_eq_append]⟩
  have hslm : sl ∈ sts := by rw [est]; exact List.mem_append_right _ List.mem_cons_self
  have lsts : sts.length = ini.length + 1 := by rw [est, List.length_append]; rfl
  obtain ⟨ui, ul, eus⟩ : ∃ ui ul, us0 = ui ++ [ul] := by
    rcases List.eq_nil_or_concat us0 with e | ⟨r0, c0, e⟩
    · rw [e] at lus0
      have : 0 = sts.length := lus0
      omega
    · exact ⟨r0, c0, by rw [e, List.concat_eq_append]⟩
  have lui : ui.length = ini.length := by
    rw [eus, List.length_append] at lus0
    have : ui.length + 1 = sts.length := lus0
    omega
  have hul : us0[ini.length]? = some ul := by rw [eus, ← lui]; simp
  have hsl : sts[ini.length]? = some sl := by rw [est]; simp
  have hat : atI us0 (-1) = some ul := by rw [eus]; exact atI_last _ _
  obtain ⟨tl', ll, rfl, htl, uw, hl, lw, hw⟩ := hus0 _ ul sl hul hsl
  refine ⟨_, rfl, 1, rfl, S, us0, -1, _, rfl, rfl, SqL.of hS, hat, tl', _, 1, _, rfl, rfl, SqT.of htl, rfl, ?_⟩
  have fin : ∀ {sz' sg : Int}, OG.Settled (dfc sts) sg sz' → OG.Settled (fun n => dif2 rs1 rs2 n) sg sz' := fun {sz' sg} h => by
    obtain ⟨a1, a2, a3⟩ := h
    refine ⟨a1, fun n hn => ?_, fun hp => ?_⟩
    · rw [hsign n (by omega)]
      exact a2 n hn
    · rw [hsign (sz' - 1) (by omega)]
      exact a3 hp
  have farE : ∀ (s0 : Int), (∃ N0, ∀ n, N0 ≤ n → sgX (dfc sts n) = s0) → FarE X.CM sts s0 H1 E := fun s0 ⟨N0, hN0⟩ n n0 hn fg dd H' s' nd hd =>
    qf s0 ⟨max N0 0, fun m hm => by rw [hsign m (by omega)]; exact hN0 m (by omega)⟩ n n0 (by rw [hsign n n0]; exact hn) fg dd H' (s1.trans s') (s1.free nd) hd
  refine ⟨_, rfl, _, .inl ⟨uw, SqL.of hl, rfl⟩, ?_⟩
  cases uw with
  | nil =>
    have esl : sl.2 = [] := List.eq_nil_of_length_eq_zero lw.symm
    have tail0 : ∀ n, sl.1 ≤ n → sgX (dfc sts n) = 0 := fun n hn => by
      unfold dfc
      have hr := hO.rises
      rw [est] at hr ⊢
      rw [stPw_last hr hn, esl]
      rfl
    refine iteT ⟨_, rfl, S, sts, ini, sl, rs1, rs2, AA, NN, rfl, hSt, k1, k2, hA, hN, hrel, htame, est, esl, fun size H2 s2 hset hsz => ?_, farE 0 ⟨sl.1, tail0⟩⟩
    refine ⟨_, rfl, _, rfl, (by show 3 ≤ sizeLine; decide), fun t1 nt1 => ⟨(by show 1 ≤ sizeLine; decide), fun l1 nl1 => ⟨(by show 3 ≤ sizeLine; decide), fun t nt => ?_⟩⟩⟩
    have s3 := same_new (o := .tup [.str "alike", .int size, .non]) nt1
    have s4 := same_new (o := .lst [.ref t1]) nl1
    have s5 := same_new (o := .tup [.str "alike", .int size, .ref l1]) nt
    exact q t l1 _ sts 0 size [⟨"alike", size, none⟩] _ ((((s1.trans s2).trans s3).trans s4).trans s5) upd_same (s5 _ _ upd_same) (ws_one ⟨t1, rfl, (s4.trans s5) _ _ upd_same⟩) hrel (.inl ⟨rfl, rfl, ini, sl, est, esl⟩) (fin hset) hsz
  | cons u0 ur =>
    obtain ⟨p0, r, esl⟩ : ∃ p0 r, sl.2 = p0 :: r := by
      cases e : sl.2 with
      | nil => rw [e] at lw; cases lw
      | cons a b => exact ⟨a, b, rfl⟩
    obtain ⟨t0, b0, rfl, ht0, hb0⟩ := hw 0 u0 p0 rfl (by rw [esl]; rfl)
    obtain ⟨hld, hsl'⟩ := hrel.leadOk k1 k2 hA htame est esl
    have hfalls : sl.2.Pairwise fun a b => b.1 < a.1 := (stOfF_facts k1 k2 (hrel.of sl hslm)).1.falls
    obtain ⟨pq, c, epq, hc0⟩ := trim_last hld.tr hld.ne
    have elc : lastC p0.2 = c := by rw [epq, lastC_snoc]
    have hatc : atI (p0.2.map V.int) (-1) = some (.int (lastC p0.2)) := by
      rw [elc, epq, List.map_append]
      exact atI_last _ _
    refine iteF ?_
    refine ⟨_, rfl, ll, _, 0, _, rfl, rfl, SqL.of hl, atI_nat (j := 0) rfl, t0, _, 1, _, rfl, rfl, SqT.of ht0, rfl, ?_⟩
    refine ⟨_, rfl, 1, rfl, b0, _, -1, _, rfl, rfl, SqL.of hb0, hatc, lastC p0.2, rfl, ?_⟩
    have hz : sgX (lastC p0.2) ≠ 0 := hld.s0
    -- all great sizes have the lead's sign
    have tail : ∃ N0, ∀ n, N0 ≤ n → sgX (dfc sts n) = sgX (lastC p0.2) := by
      have hmay := hrel.may k1 k2 hN hslm hsl'
      have pN : (0 : Int) < 2 ^ (122 + 410) := Int.pow_pos (by decide)
      refine ⟨2 ^ ((2 : Int) ^ (122 + 410) + 230).toNat, fun n hn => ?_⟩
      have n0 : 0 ≤ n := by
        have : (0 : Int) < 2 ^ ((2 : Int) ^ (122 + 410) + 230).toNat := Int.pow_pos (by decide)
        omega
      have g := figs_ge_of (n := n) (k := ((2 : Int) ^ (122 + 410) + 230).toNat + 1) (by rw [Nat.add_sub_cancel]; exact hn) (by omega)
      have ee := hld.ends (figs n : Int) (by omega)
      have m' := hmay.mono (g := (figs n : Int)) (by omega)
      rw [(lead_tells est hO.rises esl hfalls n0 rfl m').2.1 (fun z => hz (by rw [← ee.1, z]; rfl))]
      exact ee.1
    refine ⟨_, rfl, _, rfl, S, sts, ini, sl, p0, r, rs1, rs2, AA, NN, rfl, hSt, k1, k2, hA, hN, hrel, htame, est, esl, fun t lr us rs size H2 s2 ht hlr hWs hch hwr hsz => ?_, farE _ tail⟩
    obtain ⟨c1, c2⟩ := hch.tells est hO.rises esl hfalls hz
    have hset : OG.Settled (dfc sts) (sgX (lastC p0.2)) size := ⟨c1, c2, hwr⟩
    refine ⟨t, _, rfl, SqT.of ht, rfl, _, _, rfl, _, _, rfl, rfl, ?_⟩
    have hWr : ∀ {H3 : Hp}, WsAt H3 us rs → WsAt H3 us.reverse rs.reverse := fun {H3} hw => by
      refine ⟨by rw [List.length_reverse, List.length_reverse, hw.1], fun i u r hu hr => ?_⟩
      have il : i < us.length := by
        have := (List.getElem?_eq_some_iff.mp hu).1
        rwa [List.length_reverse] at this
      rw [List.getElem?_reverse il] at hu
      rw [List.getElem?_reverse (by rw [← hw.1]; exact il), ← hw.1] at hr
      exact hw.2 _ u r hu hr
    have pap : Paper sts (sgX (lastC p0.2)) size rs.reverse := .inr ⟨hz, ini, sl, p0, r, rs, est, esl, rfl, hch, rfl⟩
    refine ⟨_, rfl, sgX (lastC p0.2), 0, rfl, rfl, _, rfl, ite2 (fun d => ?_) (fun d => ?_)⟩
    · have d2 : 0 < sgX (lastC p0.2) := of_decide_eq_true d
      have ew : wordOf (sgX (lastC p0.2)) = "more" := by
        unfold wordOf
        rw [if_neg hz, if_pos d2]
      refine ⟨_, rfl, _, rfl, lr, us, rfl, SqL.of hlr, fun p np => ⟨(by show 3 ≤ sizeLine; decide), fun t2 nt2 => ?_⟩⟩
      have s3 := same_new (o := .lst us.reverse) np
      have s4 := same_new (o := .tup [.str "more", .int size, .ref p]) nt2
      refine q t2 p _ sts (sgX (lastC p0.2)) size rs.reverse _ (((s1.trans s2).trans s3).trans s4) ?_ (s4 _ _ upd_same) ((hWr hWs).to (Imm.same (s3.trans s4))) hrel pap (fin hset) hsz
      rw [ew]
      exact upd_same
    · have d2 : ¬ 0 < sgX (lastC p0.2) := fun z => d (decide_eq_true z)
      have ew : wordOf (sgX (lastC p0.2)) = "less" := by
        unfold wordOf
        rw [if_neg hz, if_neg d2]
      refine ⟨_, rfl, _, rfl, lr, us, rfl, SqL.of hlr, fun p np => ⟨(by show 3 ≤ sizeLine; decide), fun t2 nt2 => ?_⟩⟩
      have s3 := same_new (o := .lst us.reverse) np
      have s4 := same_new (o := .tup [.str "less", .int size, .ref p]) nt2
      refine q t2 p _ sts (sgX (lastC p0.2)) size rs.reverse _ (((s1.trans s2).trans s3).trans s4) ?_ (s4 _ _ upd_same) ((hWr hWs).to (Imm.same (s3.trans s4))) hrel pap (fin hset) hsz
      rw [ew]
      exact upd_same
theorem ok_compared (T : Tops K mg) (X : Exx K mg) : FnOk P w K mg base (L2.CX P w) 10 T.fcompared T.dcompared ["one", "other"] (spComparedF X.CM) := by
  have Gsettled : FnOk P w K mg base (L2.CX P w) 9 T.fsettled T.dsettled ["one", "other"] (spSettledF X.CM) := ok_settled T X
  refine T.Fcompared.okX (k := 9) sccompared (fun vs H Q E h => ?_) (fun cdv A outer s H vs Q E hr h => ?_)
  · obtain ⟨S1, rs1, ls1, S2, rs2, ls2, AA, NN, rfl, _⟩ := h
    rfl
  obtain ⟨S1, rs1, ls1, S2, rs2, ls2, AA, NN, rfl, h1, h2, k1, k2, hA, hN, htm, q, qf⟩ := h
  refine ⟨_, (pss_cons (ps_asg (pe_call Gsettled (hr.mono (by omega)) (by rfl) T.gsettled T.Fsettled.kp T.bsettled .nil (passes_call (takes_of rfl rfl rfl rfl) (fun _ _ _ _ h => h)) (pa_cons (pv 0) (pa_cons (pv 1) pa_nil))) (pg_tup rfl (pgs_cons (pg_name (i := 2) sccompared.nd rfl (Or.inl rfl)) (pgs_cons (pg_name (i := 3) sccompared.nd rfl (Or.inl rfl)) (pgs_cons (pg_name (i := 4) sccompared.nd rfl (Or.inl rfl)) pgs_nil)))))
 (pss_one (ps_ret (pe_tup (pa_cons (pv 2) (pa_cons (pv 3) pa_nil)))))), ?_⟩
  refine ⟨_, rfl, _, rfl, S1, rs1, ls1, S2, rs2, ls2, AA, NN, rfl, h1, h2, k1, k2, hA, hN, htm, fun t lr us sts s size R H1 s1 ht hlr hWs hrel hpap hset hsz => ?_, qf⟩
  refine ⟨t, _, rfl, SqT.of ht, rfl, _, _, rfl, _, _, rfl, _, _, rfl, rfl, ?_⟩
  refine ⟨_, rfl, _, rfl, (by show 2 ≤ sizeLine; decide), fun t2 nt2 => ?_⟩
  have s2 := same_new (o := .tup [.str (wordOf s), .int size]) nt2
  exact q t2 s size _ (s1.trans s2) upd_same hset hsz
end
end K18

set_option Elab.async false
set_option linter.all false
set_option maxRecDepth 100000
set_option maxHeartbeats 4000000
namespace K18
open PySem PySem.Spec PyProof.Rows L2 OG
open C8 (pss_cut pe_gc)
open OGX

section
variable {P : Program} {w : World} {K : PySem.W.Frag} {mg : Str → Option Value} {base : Heap}
theorem falls_of {kl : List (Int × Int)} (h1 : kl.Pairwise fun a b => SrtO.lexB b a = false) (h2 : kl.Nodup) {ts : List Term} (e : ts.map (·.1) = kl.reverse) : Falls ts := by
  have h3 : kl.Pairwise fun a b => SrtO.lexB a b = true := by
    refine List.Pairwise.imp₂ (fun a b x y => ?_) h1 h2
    rw [SrtO.lexB_iff]
    have n := SrtO.lexB_no.mp x
    have ne : ¬ (a.1 = b.1 ∧ a.2 = b.2) := fun z => y (Prod.ext z.1 z.2)
    omega
  have h4 : (ts.map (·.1)).Pairwise fun x y => SrtO.lexB y x = true := by
    rw [e, List.pairwise_reverse]
    exact h3
  exact List.pairwise_map.mp h4
theorem low_ok {o u top deep wide : Int} {p : Int × Int} (hu : u = 1 ∨ u = 2) (ho : o ≠ 0) (hw : o.natAbs ≤ wide.toNat) (p0 : 0 ≤ p.1) (p1 : p.1 ≤ top) (f0 : 0 ≤ p.2) (f1 : p.2 ≤ deep) : TermOk top deep wide (p, lowOf o u) := by
  have hp : 0 < Int.gcd o u := Int.gcd_pos_of_ne_zero_right _ (by omega)
  have hle : Int.gcd o u ≤ u.natAbs := Nat.le_of_dvd (by omega) (Nat.gcd_dvd_right o.natAbs u.natAbs)
  have h12 : Int.gcd o u = 1 ∨ (Int.gcd o u = 2 ∧ u = 2) := by omega
  rcases h12 with h | ⟨h, h2⟩
  · have e : lowOf o u = (o, u) := by unfold lowOf; rw [h]; simp
    rw [e]
    exact ⟨p0, p1, f0, f1, ho, hw, by show 1 ≤ u; omega, by show u ≤ 2; omega⟩
  · have hd : (2 : Int) ∣ o := by
      have := Int.gcd_dvd_left (a := o) (b := u)
      rw [h] at this
      exact this
    have e : lowOf o u = (o / 2, 1) := by unfold lowOf; rw [h, h2]; rfl
    rw [e]
    obtain ⟨k, rfl⟩ := hd
    have e2 : (2 * k) / 2 = k := by omega
    rw [e2]
    exact ⟨p0, p1, f0, f1, by show k ≠ 0; omega, by show k.natAbs ≤ wide.toNat; omega, by show (1 : Int) ≤ 1; omega, by show (1 : Int) ≤ 2; omega⟩
theorem ok_l_terms (T : Tops K mg) : FnOk P w K mg base CX0 3 T.fl_terms T.dl_terms ["_law_draw", "_law_top", "_law_deep", "_law_wide"] spTerms := by
  have Gl_take : FnOk P w K mg base CX0 1 T.fl_take T.dl_take ["_law_draw", "_law_sides"] spTakeW := ok_takeW T
  have Gl_lowest : FnOk P w K mg base CX0 2 T.fl_lowest T.dl_lowest ["_law_over", "_law_under"] spLowest := ok_l_lowest T
  refine T.Fl_terms.ok (k := 2) scl_terms (fun vs H Q E h => ?_) (fun cdv A outer s H vs Q E hr h => ?_)
  · obtain ⟨d, L, top, deep, wide, rfl, _⟩ := h
    rfl
  obtain ⟨d, L, top, deep, wide, rfl, hD, t0, t9, d0, d9, w1, w2, q⟩ := h
  refine ⟨_, (pss_cons (ps_set (i := 4) scl_terms.nd rfl (Or.inr rfl) pe_dnewT)
 (pss_cons (ps_for PassesOwn.never rfl (pi_range1 (by rfl) T.mrange (pa_cons (pe_call Gl_take (hr.mono (by omega)) (by rfl) T.gl_take T.Fl_take.kp T.bl_take .nil pass0 (pa_cons (pv 0) (pa_cons pe_int pa_nil))) pa_nil)) (pg_name (i := 5) scl_terms.nd rfl (Or.inl rfl))
  (pss_cons (ps_set (i := 6) scl_terms.nd rfl (Or.inl rfl) (pe_op op_mul (pe_ix ix_list (pe_lst (pa_cons pe_int (pa_cons (pe_un un_neg pe_int) pa_nil))) (pe_call Gl_take (hr.mono (by omega)) (by rfl) T.gl_take T.Fl_take.kp T.bl_take .nil pass0 (pa_cons (pv 0) (pa_cons pe_int pa_nil))) (fun _ _ => rfl)) (pe_op op_add pe_int (pe_call Gl_take (hr.mono (by omega)) (by rfl) T.gl_take T.Fl_take.kp T.bl_take .nil pass0 (pa_cons (pv 0) (pa_cons (pv 3) pa_nil))))))
 (pss_cons (ps_set (i := 7) scl_terms.nd rfl (Or.inl rfl) (pe_tup (pa_cons (pe_call Gl_take (hr.mono (by omega)) (by rfl) T.gl_take T.Fl_take.kp T.bl_take .nil pass0 (pa_cons (pv 0) (pa_cons (pe_op op_add (pv 1) pe_int) pa_nil))) (pa_cons (pe_call Gl_take (hr.mono (by omega)) (by rfl) T.gl_take T.Fl_take.kp T.bl_take .nil pass0 (pa_cons (pv 0) (pa_cons (pe_op op_add (pv 2) pe_int) pa_nil))) pa_nil))))
 (pss_one (ps_dput (hu_of hr) (pv 4) (pv 7) (pe_call Gl_lowest (hr.mono (by omega)) (by rfl) T.gl_lowest T.Fl_lowest.kp T.bl_lowest .nil pass0 (pa_cons (pv 6) (pa_cons (pe_op op_add pe_int (pe_call Gl_take (hr.mono (by omega)) (by rfl) T.gl_take T.Fl_take.kp T.bl_take .nil pass0 (pa_cons (pv 0) (pa_cons (pe_ix ix_list (pe_lst (pa_cons pe_int (pa_cons pe_int (pa_cons pe_int pa_nil)))) (pe_call Gl_take (hr.mono (by omega)) (by rfl) T.gl_take T.Fl_take.kp T.bl_take .nil pass0 (pa_cons (pv 0) (pa_cons pe_int pa_nil))) (fun _ _ => rfl)) pa_nil)))) pa_nil))) rfl)))))
 (pss_one (ps_ret (pe_lc (own := [("_law_key", 7)]) rfl scl_terms.nd (pi_list (pe_revL (pe_callB (call_sortedDT rfl) (by rfl) T.msorted (by decide +kernel) (pa_cons (pv 4) pa_nil)))) (blkOk_by (N := Nl_terms) (sc := defScope sl_terms) (by decide +kernel)) (fun _ _ _ _ _ => (pg_name (i := 7) scl_terms.nd rfl (Or.inl rfl))) (fun _ _ _ _ _ => pts_nil) (fun _ _ _ _ _ => (pe_tup (pa_cons (pv 7) (pa_cons (pe_dget (hu_of hr) (pv 4) (pv 7) (fun _ _ => rfl)) pa_nil))))))))), ?_⟩
  have big : ∀ x : Int, x < 2 ^ 100 → x < 2 ^ 200 := fun x h => by omega
  refine fun F nF => ?_
  have nFd := hD.neNew nF
  refine ⟨_, rfl, d, L, 4, rfl, hD.new nF, by decide, by decide, fun g H1 g0 g1 hD1 hB1 => ?_⟩
  have hF1 : H1 F = some (.dT []) := by
    rw [hB1 F nFd.1]
    exact upd_same
  have G1 : Go (· = d) H H1 := ((Go.refl _ H).new nF).trans (Go.but (hD.new nF) hB1 rfl)
  refine ⟨g, rfl, by omega, by omega, ?_⟩
  refine for_range (lo := 0) (n := g.toNat) (fun i σ H' => (∃ x5 x6 x7, σ = [some (.ref d), some (.int top), some (.int deep), some (.int wide), some (.ref F), x5, x6, x7]) ∧ Dr H' d L ∧ Go (· = d) H H' ∧ TDict H' F (fun p o => TermOk top deep wide (p, o)) i)
    ⟨⟨_, _, _, rfl⟩, hD1, G1, [], [], hF1, rfl, by simp, by simp, (fun _ h => by cases h)⟩ (fun i σ H2 hi hP => ?_) (fun σ H2 hP => ?_)
  · obtain ⟨⟨x5, x6, x7, rfl⟩, hD2, G2, hT2⟩ := hP
    -- over
    refine ⟨1, rfl, (by show 2 ≤ sizeLine; decide), fun l nl => ?_⟩
    refine ⟨_, rfl, d, L, 2, rfl, hD2.new nl, by decide, by decide, fun g3 H3 a3 b3 hD3 hB3 => ?_⟩
    have G23 : Go (· = d) H2 H3 := ((Go.refl _ H2).new nl).trans (Go.but (hD2.new nl) hB3 rfl)
    have hl : H3 l = some (.lst [.int 1, .int (-1)]) := by
      rw [hB3 l (hD2.neNew nl).1]
      exact upd_same
    obtain ⟨v3, hv3, hm3⟩ := atI_lt (xs := [V.int 1, .int (-1)]) a3 b3
    obtain ⟨s3, rfl, hs3⟩ := mem_ints2 hm3
    refine ⟨l, _, g3, _, rfl, rfl, SqL.of hl, hv3, ?_⟩
    refine ⟨_, rfl, _, rfl, d, L, wide, rfl, hD3, w1, big wide w2, fun g4 H4 a4 b4 hD4 hB4 => ?_⟩
    have G24 := G23.trans (Go.but hD3 hB4 (M := (· = d)) rfl)
    refine ⟨1, g4, rfl, rfl, s3, 1 + g4, rfl, rfl, .inl ⟨by omega, by omega⟩, ?_⟩
    -- key
    refine ⟨_, rfl, _, rfl, _, _, rfl, rfl, d, L, top + 1, rfl, hD4, by omega, by omega, fun p1 H5 a5 b5 hD5 hB5 => ?_⟩
    have G25 := G24.trans (Go.but hD4 hB5 (M := (· = d)) rfl)
    refine ⟨_, rfl, _, rfl, _, _, rfl, rfl, d, L, deep + 1, rfl, hD5, by omega, by omega, fun p2 H6 a6 b6 hD6 hB6 => ?_⟩
    have G26 := G25.trans (Go.but hD5 hB6 (M := (· = d)) rfl)
    refine ⟨(by show 2 ≤ sizeLine; decide), fun kx nkx => ?_⟩
    have hkx : (upd H6 kx (.tup [.int p1, .int p2])) kx = some (.tup [.int p1, .int p2]) := upd_same
    have G27 := G26.new (o := .tup [.int p1, .int p2]) nkx
    have hD7 := hD6.new (o := .tup [.int p1, .int p2]) nkx
    -- part
    refine ⟨_, rfl, _, rfl, (by show 3 ≤ sizeLine; decide), fun l2 nl2 => ?_⟩
    refine ⟨_, rfl, d, L, 3, rfl, hD7.new nl2, by decide, by decide, fun g8 H8 a8 b8 hD8 hB8 => ?_⟩
    have G78 : Go (· = d) (upd H6 kx (.tup [.int p1, .int p2])) H8 := ((Go.refl _ _).new nl2).trans (Go.but (hD7.new nl2) hB8 rfl)
    have hl2 : H8 l2 = some (.lst [.int 1, .int 1, .int 2]) := by
      rw [hB8 l2 (hD7.neNew nl2).1]
      exact upd_same
    obtain ⟨v8, hv8, hm8⟩ := atI_lt (xs := [V.int 1, .int 1, .int 2]) a8 b8
    obtain ⟨m8, rfl, hs8⟩ := mem_ints3 hm8
    refine ⟨l2, _, g8, _, rfl, rfl, SqL.of hl2, hv8, ?_⟩
    refine ⟨d, L, m8, rfl, hD8, by omega, by omega, fun g9 H9 a9 b9 hD9 hB9 => ?_⟩
    have G79 := G78.trans (Go.but hD8 hB9 (M := (· = d)) rfl)
    refine ⟨1, g9, rfl, rfl, s3 * (1 + g4), 1 + g9, rfl, by omega, ?_, fun v H10 s10 hR10 => ?_⟩
    · have h3 : (1 + g9).natAbs < 2 ^ 2 := by omega
      exact Nat.lt_of_lt_of_le h3 (Nat.pow_le_pow_right (by decide) (by decide))
    have G70 := G79.trans (Go.same s10)
    have G2a : Go (· = d) H2 H10 := G27.trans G70
    have hk10 : H10 kx = some (.tup [.int p1, .int p2]) := G70.im _ _ hkx
    have hT10 : TDict H10 F (fun p o => TermOk top deep wide (p, o)) i := by
      obtain ⟨kvs, ks, h1, _⟩ := id hT2
      refine hT2.to ?_ G2a.im
      rw [h1]
      exact G2a.at h1 nFd.1
    obtain ⟨kvs, ks, hF10, hkk, _, hkl, _⟩ := id hT10
    have lkv : kvs.length ≤ 3 := by
      have := congrArg List.length hkk
      rw [List.length_map, List.length_map] at this
      omega
    refine ⟨_, rfl, _, rfl, F, _, rfl, DPut.t (k := pairK (p1, p2)) hF10 hk10 (szl (by omega)), ?_⟩
    have hok : TermOk top deep wide ((p1, p2), lowOf (s3 * (1 + g4)) (1 + g9)) := by
      refine low_ok (by omega) ?_ ?_ a5 (by show p1 ≤ top; omega) a6 (by show p2 ≤ deep; omega)
      · rcases hs3 with rfl | rfl <;> omega
      · rcases hs3 with rfl | rfl <;> omega
    exact ⟨⟨_, _, _, rfl⟩, ((hD9.same s10).upd nFd.1 nFd.2), (G2.trans G2a).own nF, hT10.put hF10 hR10 hok⟩
  · obtain ⟨⟨x5, x6, x7, rfl⟩, hD2, G2, hT2⟩ := hP
    obtain ⟨kvs, ks, hF2, hkk, hnd, hkl, hks⟩ := id hT2
    refine ⟨_, rfl, F, kvs, ks, rfl, .inl hF2, hkk, fun bs p hperm hbs hsrt np => ?_⟩
    refine ⟨p, _, rfl, SqL.of upd_same, fun r nr => ?_⟩
    refine ⟨r, rfl, ⟨_, SqL.of upd_same⟩, fun O nO => ?_⟩
    have s3 : Same H2 (upd H2 p (.lst (bs.map V.ref))) := same_new np
    have s4 := s3.trans (same_new (o := .lst (bs.map V.ref).reverse) nr)
    have lbs : bs.length ≤ 3 := by
      have := hperm.length_eq
      rw [List.length_map] at this
      omega
    have nOd := (hD2.same s4).neNew nO
    refine lc_list (xs := (bs.map V.ref).reverse) (fun i H' => Same (upd (upd H2 p (.lst (bs.map V.ref))) r (.lst (bs.map V.ref).reverse)) H' ∧ ∃ (us : List V) (ts : List Term), H' O = some (.lst us) ∧ RpL H' us (ts.map encT) ∧ ts.map (·.1) = ((bs.map (keyAt H2)).reverse.take i) ∧ (∀ t ∈ ts, TermOk top deep wide t))
      ⟨same_new nO, [], [], upd_same, rpl_nil, rfl, (fun _ h => by cases h)⟩ (fun i H' _ hP => SqL.of (hP.1 _ _ upd_same)) (fun i x H5 hx hP => ?_) (fun H5 hP => ?_)
    · obtain ⟨s5, us, ts, hO5, hR5, hkeys, hok⟩ := hP
      have hx2 : ∃ b, bs.reverse[i]? = some b ∧ x = .ref b := by
        rw [← List.map_reverse, List.getElem?_map] at hx
        cases hb : bs.reverse[i]? with
        | none => rw [hb] at hx; cases hx
        | some b => rw [hb] at hx; exact ⟨b, rfl, (Option.some.inj hx).symm⟩
      obtain ⟨b, hb, rfl⟩ := hx2
      have hbm : b ∈ bs := List.mem_reverse.mp (List.mem_of_getElem? hb)
      have hbt := hbs b hbm
      have hin : keyAt H2 b ∈ ks := hperm.mem_iff.mp (List.mem_map.mpr ⟨b, hbm, rfl⟩)
      obtain ⟨v, o, hval, hRv, hPv⟩ := hks _ hin
      have s25 := s4.trans s5
      have hget : DGet H5 F (.ref b) (some v) := by
        have := DGet.t (k := pairK (keyAt H2 b)) (s25 _ _ hF2) (s25 _ _ hbt)
        rw [hval] at this
        exact this
      refine ⟨rfl, yes_go ?_⟩
      refine ⟨_, rfl, _, rfl, _, rfl, F, v, rfl, hget, (by show 2 ≤ sizeLine; decide), fun t nt => ?_⟩
      have s6 : Same H5 (upd H5 t (.tup [.ref b, v])) := same_new nt
      have hO6 := s6 _ _ hO5
      have hlt : i < bs.length := by
        obtain ⟨h, _⟩ := List.getElem?_eq_some_iff.mp hb
        rw [List.length_reverse] at h
        exact h
      have lts : us.length = ts.length := by rw [hR5.length, List.length_map]
      have lts2 : ts.length = i := by
        have := congrArg List.length hkeys
        rw [List.length_map, List.length_take, List.length_reverse, List.length_map] at this
        omega
      have iO : Imm (upd H5 t (.tup [.ref b, v])) (upd (upd H5 t (.tup [.ref b, v])) O (.lst (us ++ [.ref t]))) := (Imm.refl _).upd fun xs e => by rw [hO6] at e; cases e
      refine ⟨us, hO6, szl (by omega), Same.upd_new (s5.trans s6) nO, us ++ [.ref t], ts ++ [(keyAt H2 b, o)], upd_same, ?_, ?_, fun z hz => ?_⟩
      · rw [List.map_append]
        refine (hR5.to ((Imm.same s6).trans iO)).append (rpl_cons ?_ rpl_nil)
        refine rp_tup (iO _ _ upd_same) (rpl_cons ?_ (rpl_cons ?_ rpl_nil))
        · exact rp_tup (iO _ _ (s6 _ _ (s25 _ _ hbt))) (rpl_cons rfl (rpl_cons rfl rpl_nil))
        · exact (hRv.to (Imm.same (s25.trans s6))).to iO
      · rw [List.map_append, hkeys, List.take_add_one]
        have : (bs.map (keyAt H2)).reverse[i]? = some (keyAt H2 b) := by rw [← List.map_reverse, List.getElem?_map, hb]; rfl
        rw [this]
        rfl
      · rcases List.mem_append.mp hz with h1 | h1
        · exact hok z h1
        · rw [List.mem_singleton.mp h1]
          exact hPv
    · obtain ⟨s5, us, ts, hO5, hR5, hkeys, hok⟩ := hP
      rw [List.length_reverse, List.length_map] at hkeys
      have hkeys2 : ts.map (·.1) = (bs.map (keyAt H2)).reverse := by
        rw [hkeys]
        exact List.take_of_length_le (by rw [List.length_reverse, List.length_map]; exact Nat.le_refl _)
      have lts : ts.length ≤ 3 := by
        have := congrArg List.length hkeys2
        rw [List.length_map, List.length_reverse, List.length_map] at this
        omega
      have s25 := s4.trans s5
      have hnd2 : (bs.map (keyAt H2)).Nodup := hperm.symm.nodup hnd
      have hfree : H O = none := by
        cases hO : H O with
        | none => rfl
        | some u =>
          have := (G2.trans (Go.same s4)).at hO nOd.1
          rw [nO] at this
          cases this
      exact q O ts H5 hfree nOd.1 ⟨us, hO5, hR5⟩ hok lts (falls_of (List.pairwise_map.mpr hsrt) hnd2 hkeys2) (hD2.same s25) (G2.trans (Go.same s25))
end
end K18

set_option Elab.async false
set_option linter.all false
set_option maxRecDepth 100000
set_option maxHeartbeats 4000000
namespace K18
open PySem PySem.Spec PyProof.Rows L2 OG
open C8 (pss_cut pe_gc)
open OGX

section
variable {P : Program} {w : World} {K : PySem.W.Frag} {mg : Str → Option Value} {base : Heap}
theorem ok_l_drawn_sums (T : Tops K mg) : FnOk P w K mg base CX0 4 T.fl_drawn_sums T.dl_drawn_sums ["_law_draw", "_law_top", "_law_deep", "_law_wide"] spSums := by
  have Gl_take : FnOk P w K mg base CX0 1 T.fl_take T.dl_take ["_law_draw", "_law_sides"] spTakeW := ok_takeW T
  have Gl_terms : FnOk P w K mg base CX0 3 T.fl_terms T.dl_terms ["_law_draw", "_law_top", "_law_deep", "_law_wide"] spTerms := ok_l_terms T
  refine T.Fl_drawn_sums.ok (k := 3) scl_drawn_sums (fun vs H Q E h => ?_) (fun cdv A outer s H vs Q E hr h => ?_)
  · obtain ⟨d, L, top, deep, wide, rfl, _⟩ := h
    rfl
  obtain ⟨d, L, top, deep, wide, rfl, hD, t0, t9, d0, d9, w1, w2, q⟩ := h
  refine ⟨_, (pss_cons (ps_set (i := 4) scl_drawn_sums.nd rfl (Or.inl rfl) (pe_lst (pa_cons (pe_tup (pa_cons pe_int (pa_cons (pe_call Gl_terms (hr.mono (by omega)) (by rfl) T.gl_terms T.Fl_terms.kp T.bl_terms .nil pass0 (pa_cons (pv 0) (pa_cons (pv 1) (pa_cons (pv 2) (pa_cons (pv 3) pa_nil))))) pa_nil))) pa_nil)))
 (pss_cons (ps_for PassesOwn.never rfl (pi_range1 (by rfl) T.mrange (pa_cons (pe_call Gl_take (hr.mono (by omega)) (by rfl) T.gl_take T.Fl_take.kp T.bl_take .nil pass0 (pa_cons (pv 0) (pa_cons pe_int pa_nil))) pa_nil)) (pg_name (i := 5) scl_drawn_sums.nd rfl (Or.inl rfl))
  (pss_one (ps_expr (pe_bm PySem.F.plainAttrs_list PySem.F.slot_list_append PySem.F.type_list_append mt_append (pv 4) (pa_cons (pe_tup (pa_cons (pe_op op_add (pe_op op_add (pe_ix ix_tup (pe_ix ix_list (pv 4) (pe_un un_neg pe_int) (fun _ _ => rfl)) pe_int (fun _ _ => rfl)) pe_int) (pe_call Gl_take (hr.mono (by omega)) (by rfl) T.gl_take T.Fl_take.kp T.bl_take .nil pass0 (pa_cons (pv 0) (pa_cons pe_int pa_nil)))) (pa_cons (pe_call Gl_terms (hr.mono (by omega)) (by rfl) T.gl_terms T.Fl_terms.kp T.bl_terms .nil pass0 (pa_cons (pv 0) (pa_cons (pv 1) (pa_cons (pv 2) (pa_cons (pv 3) pa_nil))))) pa_nil))) pa_nil)))))
 (pss_one (ps_ret (pv 4))))), ?_⟩
  refine ⟨_, rfl, _, rfl, _, rfl, _, rfl, d, L, top, deep, wide, rfl, hD, t0, t9, d0, d9, w1, w2, fun l0 ts0 H1 nl0 nl0d hT0 hok0 hlen0 hfall0 hD1 G1 => ?_⟩
  refine ⟨(by show 2 ≤ sizeLine; decide), fun a0 na0 => ?_⟩
  refine ⟨(by show 1 ≤ sizeLine; decide), fun F nF => ?_⟩
  have s2 : Same H1 (upd (upd H1 a0 (.tup [.int 0, .ref l0])) F (.lst [.ref a0])) := (same_new na0).trans (same_new nF)
  have hD2 := hD1.same s2
  have nFd := (hD1.new (o := .tup [.int 0, .ref l0]) na0).neNew nF
  have nFl0 : l0 ≠ F := by
    obtain ⟨us, hl, _⟩ := hT0
    exact ne_of_none (same_new na0 _ _ hl) nF
  have hr0 : RowAt (upd (upd H1 a0 (.tup [.int 0, .ref l0])) F (.lst [.ref a0])) (.ref a0) (0, ts0) l0 := ⟨a0, rfl, same_new nF _ _ upd_same, hT0.same s2⟩
  have G2 : Go (· = d) H (upd (upd H1 a0 (.tup [.int 0, .ref l0])) F (.lst [.ref a0])) := G1.trans (Go.same s2)
  have nFH : H F = none := by
    cases hz : H F with
    | none => rfl
    | some u =>
      have := G1.at hz nFd.1
      rw [same_new na0 _ _ this] at nF
      cases nF
  refine ⟨_, rfl, d, L, 4, rfl, hD2, by decide, by decide, fun g H3 g0 g1 hD3 hB3 => ?_⟩
  have G23 : Go (· = d) (upd (upd H1 a0 (.tup [.int 0, .ref l0])) F (.lst [.ref a0])) H3 := Go.but hD2 hB3 rfl
  refine ⟨g, rfl, by omega, by omega, ?_⟩
  refine for_range (lo := 0) (n := g.toNat) (fun i σ H' => (∃ x5, σ = [some (.ref d), some (.int top), some (.int deep), some (.int wide), some (.ref F), x5]) ∧ Dr H' d L ∧ Go (· = d) H H' ∧
      ∃ (us : List V) (u : V) (rs : List OG.Row) (r : OG.Row) (ls : List Addr) (l : Addr), H' F = some (.lst (us ++ [u])) ∧ RowsAt H' us rs ls ∧ RowAt H' u r l ∧ rs.length = i ∧ (∀ x ∈ ls ++ [l], H x = none ∧ x ≠ d ∧ x ≠ F) ∧
        (∀ x ∈ rs ++ [r], (∀ t ∈ x.2, TermOk top deep wide t) ∧ x.2.length ≤ 3 ∧ Falls x.2) ∧ ((rs ++ [r]).head?.map (·.1)) = some 0 ∧ ((rs ++ [r]).map (·.1)).Pairwise (· < ·) ∧ (∀ x ∈ rs ++ [r], 0 ≤ x.1 ∧ x.1 ≤ r.1) ∧ r.1 ≤ 12 * i)
    ⟨⟨_, rfl⟩, hD3, G2.trans G23, [], .ref a0, [], (0, ts0), [], l0, G23.at upd_same nFd.1, .nil, hr0.go G23 nl0d, rfl, fun x hx => ?_, fun x hx => ?_, rfl, by simp, fun x hx => ?_, by simp⟩ (fun i σ H4 hi hP => ?_) (fun σ H4 hP => ?_)
  · rw [List.mem_singleton.mp hx]
    exact ⟨nl0, nl0d, nFl0⟩
  · rw [List.mem_singleton.mp hx]
    exact ⟨hok0, hlen0, hfall0⟩
  · rw [List.mem_singleton.mp hx]
    exact ⟨Int.le_refl 0, Int.le_refl 0⟩
  · obtain ⟨⟨x5, rfl⟩, hD4, G4, us, u, rs, r, ls, l, hF4, hRs, hRl, hlen, hls, hoks, hhd, hpw, hsn, hr12⟩ := hP
    obtain ⟨a, rfl, ha, hta⟩ := id hRl
    refine ⟨_, rfl, .inl ⟨rfl, _, SqL.of hF4⟩, _, rfl, 1, rfl, F, _, -1, _, rfl, rfl, SqL.of hF4, atI_last us (.ref a), a, _, 0, _, rfl, rfl, SqT.of ha, rfl, _, _, rfl, rfl, ?_⟩
    refine ⟨_, rfl, d, L, 12, rfl, hD4, by decide, by decide, fun e H5 a5 b5 hD5 hB5 => ?_⟩
    have G45 : Go (· = d) H4 H5 := Go.but hD4 hB5 rfl
    refine ⟨_, _, rfl, rfl, ?_⟩
    refine ⟨_, rfl, _, rfl, _, rfl, _, rfl, d, L, top, deep, wide, rfl, hD5, t0, t9, d0, d9, w1, w2, fun l6 ts6 H6 nl6 nl6d hT6 hok6 hlen6 hfall6 hD6 G6 => ?_⟩
    have G46 := G45.trans G6
    refine ⟨(by show 2 ≤ sizeLine; decide), fun a6 na6 => ?_⟩
    have s7 : Same H6 (upd H6 a6 (.tup [.int (r.1 + 1 + e), .ref l6])) := same_new na6
    have hF6 := s7 _ _ (G46.at hF4 nFd.1)
    have nl6F : l6 ≠ F := by
      have hF5 := G45.at hF4 nFd.1
      exact (ne_of_none hF5 nl6).symm
    have nl6H : H l6 = none := by
      cases hz : H l6 with
      | none => rfl
      | some u =>
        have := (G4.trans G45).at hz nl6d
        rw [nl6] at this
        cases this
    have lrs := hRs.len
    refine ⟨F, _, _, rfl, rfl, hF6, szl (by rw [List.length_append, lrs.1, hlen]; show i + 1 < 100000; omega), ?_⟩
    have nM : ∀ x ∈ ls, ¬ x = d := fun x hx => (hls x (List.mem_append_left _ hx)).2.1
    have nMF : ∀ x ∈ ls, x ≠ F := fun x hx => (hls x (List.mem_append_left _ hx)).2.2
    have hl := hls l (List.mem_append_right _ (List.mem_singleton.mpr rfl))
    have hrow6 : RowAt (upd H6 a6 (.tup [.int (r.1 + 1 + e), .ref l6])) (.ref a6) (r.1 + 1 + e, ts6) l6 := ⟨a6, rfl, upd_same, hT6.same s7⟩
    refine ⟨⟨_, rfl⟩, ((hD6.same s7).upd nFd.1 nFd.2), ((G4.trans G46).trans (Go.same s7)).own nFH, us ++ [.ref a], .ref a6, rs ++ [r], (r.1 + 1 + e, ts6), ls ++ [l], l6, upd_same, ?_, hrow6.upd nl6F hF6, by rw [List.length_append, hlen]; rfl, fun x hx => ?_, fun x hx => ?_, ?_, ?_, fun x hx => ?_, ?_⟩
    · exact ((((hRs.go G46 nM).same s7).upd hF6 nMF).append (.cons (((hRl.go G46 hl.2.1).same s7).upd hl.2.2 hF6) .nil))
    · rcases List.mem_append.mp hx with h1 | h1
      · exact hls x h1
      · rw [List.mem_singleton.mp h1]
        exact ⟨nl6H, nl6d, nl6F⟩
    · rcases List.mem_append.mp hx with h1 | h1
      · exact hoks x h1
      · rw [List.mem_singleton.mp h1]
        exact ⟨hok6, hlen6, hfall6⟩
    · rw [List.head?_append, Option.map_or]
      rw [hhd]
      rfl
    · rw [List.map_append, List.pairwise_append]
      refine ⟨hpw, by simp, fun x hx y hy => ?_⟩
      obtain ⟨z, hz, rfl⟩ := List.mem_map.mp hx
      have ey : y = r.1 + 1 + e := List.mem_singleton.mp hy
      have := (hsn z hz).2
      omega
    · rcases List.mem_append.mp hx with h1 | h1
      · have := hsn x h1
        exact ⟨this.1, by show x.1 ≤ r.1 + 1 + e; omega⟩
      · rw [List.mem_singleton.mp h1]
        have := (hsn r (List.mem_append_right _ (List.mem_singleton.mpr rfl))).1
        exact ⟨by show 0 ≤ r.1 + 1 + e; omega, Int.le_refl _⟩
    · show r.1 + 1 + e ≤ 12 * ((i + 1 : Nat) : Int)
      omega
  · obtain ⟨⟨x5, rfl⟩, hD4, G4, us, u, rs, r, ls, l, hF4, hRs, hRl, hlen, hls, hoks, hhd, hpw, hsn, hr12⟩ := hP
    refine ⟨_, rfl, q F (rs ++ [r]) (ls ++ [l]) H4 nFH nFd.1 hls ⟨_, hF4, hRs.append (.cons hRl .nil)⟩ ⟨by simp, by rw [List.length_append, hlen]; show _ + 1 ≤ 4; omega, hoks, hhd, hpw, fun x hx => ?_⟩ hD4 G4⟩
    have := hsn x hx
    exact ⟨this.1, by omega⟩
end
end K18

set_option Elab.async false
set_option linter.all false
set_option maxRecDepth 100000
set_option maxHeartbeats 4000000
namespace K18
open PySem PySem.Spec PyProof.Rows L2 OG
open C8 (pss_cut pe_gc)
open OGX

section
variable {P : Program} {w : World} {K : PySem.W.Frag} {mg : Str → Option Value} {base : Heap}
structure GreatOk (wide : Int) (rs : List OG.Row) : Prop where
  n8 : rs.length = 8
  terms : ∀ r ∈ rs, (∀ t ∈ r.2, TermOk 9 9 wide t) ∧ r.2.length ≤ 8 ∧ Falls r.2
  first : (rs.head?.map (·.1)) = some 0
  rises : (rs.map (·.1)).Pairwise (· < ·)
  since : ∀ r ∈ rs, 0 ≤ r.1 ∧ r.1 ≤ 96
def spGreat : Sp := fun vs H Q _ => ∃ (d L : Addr) (wide : Int), vs = [.ref d, .int wide] ∧ Dr H d L ∧ 1 ≤ wide ∧ wide < 2 ^ 100 ∧
  ∀ (S : Addr) (rs : List OG.Row) (ls : List Addr) (H' : Hp), H S = none → S ≠ d → (∀ l ∈ ls, H l = none ∧ l ≠ d ∧ l ≠ S) → SumsAt H' S rs ls → GreatOk wide rs → Dr H' d L → Go (· = d) H H' → Q (.ref S) H'
theorem ok_l_great (T : Tops K mg) : FnOk P w K mg base CX0 3 T.fl_great_sums T.dl_great_sums ["_law_draw", "_law_wide"] spGreat := by
  have Gl_take : FnOk P w K mg base CX0 1 T.fl_take T.dl_take ["_law_draw", "_law_sides"] spTakeW := ok_takeW T
  have Gl_lowest : FnOk P w K mg base CX0 2 T.fl_lowest T.dl_lowest ["_law_over", "_law_under"] spLowest := ok_l_lowest T
  refine T.Fl_great_sums.ok (k := 2) scl_great_sums (fun vs H Q E h => ?_) (fun cdv A outer s H vs Q E hr h => ?_)
  · obtain ⟨d, L, wide, rfl, _⟩ := h
    rfl
  obtain ⟨d, L, wide, rfl, hD, w1, w2, q⟩ := h
  refine ⟨_, (pss_cons (ps_set (i := 2) scl_great_sums.nd rfl (Or.inl rfl) (pe_lst pa_nil))
 (pss_cons (ps_set (i := 3) scl_great_sums.nd rfl (Or.inl rfl) pe_int)
 (pss_cons (ps_for PassesOwn.never rfl (pi_range1 (by rfl) T.mrange (pa_cons pe_int pa_nil)) (pg_name (i := 4) scl_great_sums.nd rfl (Or.inl rfl))
  (pss_cons (ps_set (i := 5) scl_great_sums.nd rfl (Or.inr rfl) pe_dnewT)
 (pss_cons (ps_for PassesOwn.never rfl (pi_range1 (by rfl) T.mrange (pa_cons (pe_call Gl_take (hr.mono (by omega)) (by rfl) T.gl_take T.Fl_take.kp T.bl_take .nil pass0 (pa_cons (pv 0) (pa_cons pe_int pa_nil))) pa_nil)) (pg_name (i := 6) scl_great_sums.nd rfl (Or.inl rfl))
  (pss_cons (ps_set (i := 7) scl_great_sums.nd rfl (Or.inl rfl) (pe_op op_mul (pe_ix ix_list (pe_lst (pa_cons pe_int (pa_cons (pe_un un_neg pe_int) pa_nil))) (pe_call Gl_take (hr.mono (by omega)) (by rfl) T.gl_take T.Fl_take.kp T.bl_take .nil pass0 (pa_cons (pv 0) (pa_cons pe_int pa_nil))) (fun _ _ => rfl)) (pe_op op_add pe_int (pe_call Gl_take (hr.mono (by omega)) (by rfl) T.gl_take T.Fl_take.kp T.bl_take .nil pass0 (pa_cons (pv 0) (pa_cons (pv 1) pa_nil))))))
 (pss_one (ps_dput (hu_of hr) (pv 5) (pe_tup (pa_cons (pe_call Gl_take (hr.mono (by omega)) (by rfl) T.gl_take T.Fl_take.kp T.bl_take .nil pass0 (pa_cons (pv 0) (pa_cons pe_int pa_nil))) (pa_cons (pe_call Gl_take (hr.mono (by omega)) (by rfl) T.gl_take T.Fl_take.kp T.bl_take .nil pass0 (pa_cons (pv 0) (pa_cons pe_int pa_nil))) pa_nil))) (pe_call Gl_lowest (hr.mono (by omega)) (by rfl) T.gl_lowest T.Fl_lowest.kp T.bl_lowest .nil pass0 (pa_cons (pv 7) (pa_cons (pe_op op_add pe_int (pe_call Gl_take (hr.mono (by omega)) (by rfl) T.gl_take T.Fl_take.kp T.bl_take .nil pass0 (pa_cons (pv 0) (pa_cons pe_int pa_nil)))) pa_nil))) rfl))))
 (pss_cons (ps_expr (pe_bm PySem.F.plainAttrs_list PySem.F.slot_list_append PySem.F.type_list_append mt_append (pv 2) (pa_cons (pe_tup (pa_cons (pv 3) (pa_cons (pe_lc (own := [("_law_key", 8)]) rfl scl_great_sums.nd (pi_list (pe_revL (pe_callB (call_sortedDT rfl) (by rfl) T.msorted (by decide +kernel) (pa_cons (pv 5) pa_nil)))) (blkOk_by (N := Nl_great_sums) (sc := defScope sl_great_sums) (by decide +kernel)) (fun _ _ _ _ _ => (pg_name (i := 8) scl_great_sums.nd rfl (Or.inl rfl))) (fun _ _ _ _ _ => pts_nil) (fun _ _ _ _ _ => (pe_tup (pa_cons (pv 8) (pa_cons (pe_dget (hu_of hr) (pv 5) (pv 8) (fun _ _ => rfl)) pa_nil))))) pa_nil))) pa_nil)))
 (pss_one (ps_set (i := 3) scl_great_sums.nd rfl (Or.inl rfl) (pe_op op_add (pe_op op_add (pv 3) pe_int) (pe_call Gl_take (hr.mono (by omega)) (by rfl) T.gl_take T.Fl_take.kp T.bl_take .nil pass0 (pa_cons (pv 0) (pa_cons pe_int pa_nil))))))))))
 (pss_one (ps_ret (pv 2)))))), ?_⟩
  have big : ∀ x : Int, x < 2 ^ 100 → x < 2 ^ 200 := fun x h => by omega
  refine ⟨(by show 0 ≤ sizeLine; decide), fun F0 nF0 => ?_⟩
  have nF0d := hD.neNew nF0
  refine ⟨8, rfl, by decide, by decide, ?_⟩
  refine for_range (n := 8) (fun i σ H' => (∃ x4 x5 x6 x7 x8 since, σ = [some (.ref d), some (.int wide), some (.ref F0), some (.int since), x4, x5, x6, x7, x8] ∧ Dr H' d L ∧ Go (· = d) H H' ∧ ∃ (us : List V) (rs : List OG.Row) (ls : List Addr), H' F0 = some (.lst us) ∧ RowsAt H' us rs ls ∧ rs.length = i ∧ (∀ x ∈ ls, H x = none ∧ x ≠ d ∧ x ≠ F0) ∧ (∀ r ∈ rs, (∀ t ∈ r.2, TermOk 9 9 wide t) ∧ r.2.length ≤ 8 ∧ Falls r.2) ∧ ((rs.map (·.1) ++ [since]).head? = some 0) ∧ (rs.map (·.1)).Pairwise (· < ·) ∧ (∀ r ∈ rs, 0 ≤ r.1 ∧ r.1 < since) ∧ 0 ≤ since ∧ since ≤ 12 * i))
    ⟨_, _, _, _, _, 0, rfl, hD.new nF0, (Go.refl _ H).new nF0, [], [], [], upd_same, .nil, rfl, (fun x h => nomatch h), (fun x h => nomatch h), rfl, .nil, (fun x h => nomatch h), Int.le_refl _, by omega⟩ (fun i σ H4 hi hP => ?_) (fun σ H4 hP => ?_)
  · obtain ⟨x4, x5, x6, x7, x8, since, rfl, hD4, G4, us, rs, ls, hF4, hRs, hlen, hls, hoks, hhd, hpw, hsn, hs0, hs12⟩ := hP
    refine fun F nF => ?_
    have nFd := hD4.neNew nF
    have nFF0 : F ≠ F0 := (ne_of_none hF4 nF).symm
    refine ⟨_, rfl, d, L, 9, rfl, hD4.new nF, by decide, by decide, fun g H1 g0 g1 hD1 hB1 => ?_⟩
    have hF1 : H1 F = some (.dT []) := by
      rw [hB1 F nFd.1]
      exact upd_same
    have G1 : Go (· = d) H4 H1 := ((Go.refl _ H4).new nF).trans (Go.but (hD4.new nF) hB1 rfl)
    refine ⟨g, rfl, by omega, by omega, ?_⟩
    refine for_range (lo := 0) (n := g.toNat) (fun j σ H' => (∃ x6 x7 x8, σ = [some (.ref d), some (.int wide), some (.ref F0), some (.int since), some (.int (0 + (i : Int))), some (.ref F), x6, x7, x8]) ∧ Dr H' d L ∧ Go (· = d) H4 H' ∧ TDict H' F (fun p o => TermOk 9 9 wide (p, o)) j)
      ⟨⟨_, _, _, rfl⟩, hD1, G1, [], [], hF1, rfl, by simp, by simp, (fun _ h => by cases h)⟩ (fun j σ H2 hj hP => ?_) (fun σ H2 hP => ?_)
    · obtain ⟨⟨x6, x7, x8, rfl⟩, hD2, G2, hT2⟩ := hP
      refine ⟨1, rfl, (by show 2 ≤ sizeLine; decide), fun l nl => ?_⟩
      refine ⟨_, rfl, d, L, 2, rfl, hD2.new nl, by decide, by decide, fun g3 H3 a3 b3 hD3 hB3 => ?_⟩
      have G23 : Go (· = d) H2 H3 := ((Go.refl _ H2).new nl).trans (Go.but (hD2.new nl) hB3 rfl)
      have hl : H3 l = some (.lst [.int 1, .int (-1)]) := by
        rw [hB3 l (hD2.neNew nl).1]
        exact upd_same
      obtain ⟨v3, hv3, hm3⟩ := atI_lt (xs := [V.int 1, .int (-1)]) a3 b3
      obtain ⟨s3, rfl, hs3⟩ := mem_ints2 hm3
      refine ⟨l, _, g3, _, rfl, rfl, SqL.of hl, hv3, ?_⟩
      refine ⟨_, rfl, _, rfl, d, L, wide, rfl, hD3, w1, big wide w2, fun g4 H5 a4 b4 hD5 hB5 => ?_⟩
      have G25 := G23.trans (Go.but hD3 hB5 (M := (· = d)) rfl)
      refine ⟨1, g4, rfl, rfl, s3, 1 + g4, rfl, rfl, .inl ⟨by omega, by omega⟩, ?_⟩
      refine ⟨_, rfl, _, rfl, d, L, 2, rfl, hD5, by decide, by decide, fun g9 H6 a9 b9 hD6 hB6 => ?_⟩
      have G26 := G25.trans (Go.but hD5 hB6 (M := (· = d)) rfl)
      refine ⟨1, g9, rfl, rfl, s3 * (1 + g4), 1 + g9, rfl, by omega, ?_, fun v H7 s7 hR7 => ?_⟩
      · have h3 : (1 + g9).natAbs < 2 ^ 2 := by omega
        exact Nat.lt_of_lt_of_le h3 (Nat.pow_le_pow_right (by decide) (by decide))
      have hD7 := hD6.same s7
      refine ⟨_, rfl, _, rfl, d, L, 10, rfl, hD7, by decide, by decide, fun p1 H8 a5 b5 hD8 hB8 => ?_⟩
      have G78 : Go (· = d) H7 H8 := Go.but hD7 hB8 rfl
      refine ⟨_, rfl, d, L, 10, rfl, hD8, by decide, by decide, fun p2 H9 a6 b6 hD9 hB9 => ?_⟩
      have G79 := G78.trans (Go.but hD8 hB9 (M := (· = d)) rfl)
      refine ⟨(by show 2 ≤ sizeLine; decide), fun kx nkx => ?_⟩
      have hkx : (upd H9 kx (.tup [.int p1, .int p2])) kx = some (.tup [.int p1, .int p2]) := upd_same
      have G7a := G79.new (o := .tup [.int p1, .int p2]) nkx
      have hDa := hD9.new (o := .tup [.int p1, .int p2]) nkx
      have G2a : Go (· = d) H2 (upd H9 kx (.tup [.int p1, .int p2])) := (G26.trans (Go.same s7)).trans G7a
      have hTa : TDict (upd H9 kx (.tup [.int p1, .int p2])) F (fun p o => TermOk 9 9 wide (p, o)) j := by
        obtain ⟨kvs, ks, h1, _⟩ := id hT2
        refine hT2.to ?_ G2a.im
        rw [h1]
        exact G2a.at h1 nFd.1
      obtain ⟨kvs, ks, hFa, hkk, _, hkl, _⟩ := id hTa
      have lkv : kvs.length ≤ 9 := by
        have := congrArg List.length hkk
        rw [List.length_map, List.length_map] at this
        omega
      refine ⟨F, _, rfl, DPut.t (k := pairK (p1, p2)) hFa hkx (szl (by omega)), ?_⟩
      have hok : TermOk 9 9 wide ((p1, p2), lowOf (s3 * (1 + g4)) (1 + g9)) := by
        refine low_ok (by omega) ?_ ?_ a5 (by show p1 ≤ 9; omega) a6 (by show p2 ≤ 9; omega)
        · rcases hs3 with rfl | rfl <;> omega
        · rcases hs3 with rfl | rfl <;> omega
      exact ⟨⟨_, _, _, rfl⟩, (hDa.upd nFd.1 nFd.2), (G2.trans G2a).own nF, hTa.put hFa (hR7.to G7a.im) hok⟩
    · obtain ⟨⟨x6, x7, x8, rfl⟩, hD2, G2, hT2⟩ := hP
      obtain ⟨kvs, ks, hF2, hkk, hnd, hkl, hks⟩ := id hT2
      have hF02 := G2.at hF4 nF0d.1
      refine ⟨_, rfl, .inl ⟨rfl, _, SqL.of hF02⟩, _, rfl, ?_⟩
      refine ⟨_, rfl, F, kvs, ks, rfl, .inl hF2, hkk, fun bs p hperm hbs hsrt np => ?_⟩
      refine ⟨p, _, rfl, SqL.of upd_same, fun r nr => ?_⟩
      refine ⟨r, rfl, ⟨_, SqL.of upd_same⟩, fun O nO => ?_⟩
      have s3 : Same H2 (upd H2 p (.lst (bs.map V.ref))) := same_new np
      have s4 := s3.trans (same_new (o := .lst (bs.map V.ref).reverse) nr)
      have lbs : bs.length ≤ 8 := by
        have := hperm.length_eq
        rw [List.length_map] at this
        omega
      have nOd := (hD2.same s4).neNew nO
      refine lc_list (xs := (bs.map V.ref).reverse) (fun i H' => Same (upd (upd H2 p (.lst (bs.map V.ref))) r (.lst (bs.map V.ref).reverse)) H' ∧ ∃ (us : List V) (ts : List Term), H' O = some (.lst us) ∧ RpL H' us (ts.map encT) ∧ ts.map (·.1) = ((bs.map (keyAt H2)).reverse.take i) ∧ (∀ t ∈ ts, TermOk 9 9 wide t))
        ⟨same_new nO, [], [], upd_same, rpl_nil, rfl, (fun _ h => by cases h)⟩ (fun i H' _ hP => SqL.of (hP.1 _ _ upd_same)) (fun i x H5 hx hP => ?_) (fun H5 hP => ?_)
      · obtain ⟨s5, us, ts, hO5, hR5, hkeys, hok⟩ := hP
        have hx2 : ∃ b, bs.reverse[i]? = some b ∧ x = .ref b := by
          rw [← List.map_reverse, List.getElem?_map] at hx
          cases hb : bs.reverse[i]? with
          | none => rw [hb] at hx; cases hx
          | some b => rw [hb] at hx; exact ⟨b, rfl, (Option.some.inj hx).symm⟩
        obtain ⟨b, hb, rfl⟩ := hx2
        have hbm : b ∈ bs := List.mem_reverse.mp (List.mem_of_getElem? hb)
        have hbt := hbs b hbm
        have hin : keyAt H2 b ∈ ks := hperm.mem_iff.mp (List.mem_map.mpr ⟨b, hbm, rfl⟩)
        obtain ⟨v, o, hval, hRv, hPv⟩ := hks _ hin
        have s25 := s4.trans s5
        have hget : DGet H5 F (.ref b) (some v) := by
          have := DGet.t (k := pairK (keyAt H2 b)) (s25 _ _ hF2) (s25 _ _ hbt)
          rw [hval] at this
          exact this
        refine ⟨rfl, yes_go ?_⟩
        refine ⟨_, rfl, _, rfl, _, rfl, F, v, rfl, hget, (by show 2 ≤ sizeLine; decide), fun t nt => ?_⟩
        have s6 : Same H5 (upd H5 t (.tup [.ref b, v])) := same_new nt
        have hO6 := s6 _ _ hO5
        have hlt : i < bs.length := by
          obtain ⟨h, _⟩ := List.getElem?_eq_some_iff.mp hb
          rw [List.length_reverse] at h
          exact h
        have lts : us.length = ts.length := by rw [hR5.length, List.length_map]
        have lts2 : ts.length = i := by
          have := congrArg List.length hkeys
          rw [List.length_map, List.length_take, List.length_reverse, List.length_map] at this
          omega
        have iO : Imm (upd H5 t (.tup [.ref b, v])) (upd (upd H5 t (.tup [.ref b, v])) O (.lst (us ++ [.ref t]))) := (Imm.refl _).upd fun xs e => by rw [hO6] at e; cases e
        refine ⟨us, hO6, szl (by omega), Same.upd_new (s5.trans s6) nO, us ++ [.ref t], ts ++ [(keyAt H2 b, o)], upd_same, ?_, ?_, fun z hz => ?_⟩
        · rw [List.map_append]
          refine (hR5.to ((Imm.same s6).trans iO)).append (rpl_cons ?_ rpl_nil)
          refine rp_tup (iO _ _ upd_same) (rpl_cons ?_ (rpl_cons ?_ rpl_nil))
          · exact rp_tup (iO _ _ (s6 _ _ (s25 _ _ hbt))) (rpl_cons rfl (rpl_cons rfl rpl_nil))
          · exact (hRv.to (Imm.same (s25.trans s6))).to iO
        · rw [List.map_append, hkeys, List.take_add_one]
          have : (bs.map (keyAt H2)).reverse[i]? = some (keyAt H2 b) := by rw [← List.map_reverse, List.getElem?_map, hb]; rfl
          rw [this]
          rfl
        · rcases List.mem_append.mp hz with h1 | h1
          · exact hok z h1
          · rw [List.mem_singleton.mp h1]
            exact hPv
      · obtain ⟨s5, us', ts, hO5, hR5, hkeys, hok⟩ := hP
        rw [List.length_reverse, List.length_map] at hkeys
        have hkeys2 : ts.map (·.1) = (bs.map (keyAt H2)).reverse := by
          rw [hkeys]
          exact List.take_of_length_le (by rw [List.length_reverse, List.length_map]; exact Nat.le_refl _)
        have lts : ts.length ≤ 8 := by
          have := congrArg List.length hkeys2
          rw [List.length_map, List.length_reverse, List.length_map] at this
          omega
        have s25 := s4.trans s5
        have hnd2 : (bs.map (keyAt H2)).Nodup := hperm.symm.nodup hnd
        have hOF0 : O ≠ F0 := (ne_of_none (s4 _ _ hF02) nO).symm
        have hfree : H O = none := by
          cases hO : H O with
          | none => rfl
          | some u =>
            have := ((G4.trans G2).trans (Go.same s4)).at hO nOd.1
            rw [nO] at this
            cases this
        have hfl := falls_of (List.pairwise_map.mpr hsrt) hnd2 hkeys2
        have lrs := hRs.len
        refine ⟨(by show 2 ≤ sizeLine; decide), fun a6 na6 => ?_⟩
        have s6 : Same H5 (upd H5 a6 (.tup [.int since, .ref O])) := same_new na6
        have s26 := s25.trans s6
        have hF06 := s26 _ _ hF02
        refine ⟨F0, _, _, rfl, rfl, hF06, szl (by omega), ?_⟩
        have G46 : Go (· = d) H4 (upd H5 a6 (.tup [.int since, .ref O])) := G2.trans (Go.same s26)
        have hrow6 : RowAt (upd H5 a6 (.tup [.int since, .ref O])) (.ref a6) (since, ts) O := ⟨a6, rfl, upd_same, us', s6 _ _ hO5, hR5.to (Imm.same s6)⟩
        have hRs6 := hRs.go G46 fun x hx => (hls x hx).2.1
        have hD6 := hD2.same s26
        have GF : Go (· = d) H (upd (upd H5 a6 (.tup [.int since, .ref O])) F0 (.lst (us ++ [.ref a6]))) := (G4.trans G46).own nF0
        have hrows : RowsAt (upd (upd H5 a6 (.tup [.int since, .ref O])) F0 (.lst (us ++ [.ref a6]))) (us ++ [.ref a6]) (rs ++ [(since, ts)]) (ls ++ [O]) := (hRs6.upd hF06 fun x hx => (hls x hx).2.2).append (.cons (hrow6.upd hOF0 hF06) .nil)
        have hD7 := hD6.upd (p := F0) (o := .lst (us ++ [.ref a6])) nF0d.1 nF0d.2
        have hF07 : (upd (upd H5 a6 (.tup [.int since, .ref O])) F0 (.lst (us ++ [.ref a6]))) F0 = some (.lst (us ++ [.ref a6])) := upd_same
        generalize upd (upd H5 a6 (.tup [.int since, .ref O])) F0 (.lst (us ++ [.ref a6])) = H7 at *
        refine ⟨_, rfl, since, 1, rfl, rfl, _, rfl, d, L, 12, rfl, hD7, by decide, by decide, fun e H8 e0 e12 hD8 hB8 => ?_⟩
        have G78 : Go (· = d) H7 H8 := Go.but hD7 hB8 rfl
        have hls2 : ∀ x ∈ ls ++ [O], H x = none ∧ x ≠ d ∧ x ≠ F0 := fun x hx => by
          rcases List.mem_append.mp hx with h1 | h1
          · exact hls x h1
          · rw [List.mem_singleton.mp h1]
            exact ⟨hfree, nOd.1, hOF0⟩
        refine ⟨since + 1, e, rfl, rfl, _, _, _, _, _, since + 1 + e, rfl, hD8, GF.trans G78, us ++ [.ref a6], rs ++ [(since, ts)], ls ++ [O], G78.at hF07 nF0d.1, hrows.go G78 fun x hx => (hls2 x hx).2.1, by rw [List.length_append, hlen]; rfl, hls2, fun x hx => ?_, ?_, ?_, fun x hx => ?_, by omega, ?_⟩
        · rcases List.mem_append.mp hx with h1 | h1
          · exact hoks x h1
          · rw [List.mem_singleton.mp h1]
            exact ⟨hok, lts, hfl⟩
        · rw [List.map_append, List.append_assoc]
          rw [List.head?_append] at hhd ⊢
          cases hc : (rs.map (·.1)).head? with
          | none =>
            rw [hc] at hhd
            exact hhd
          | some z =>
            rw [hc] at hhd
            exact hhd
        · rw [List.map_append, List.pairwise_append]
          refine ⟨hpw, by simp, fun x hx y hy => ?_⟩
          obtain ⟨z, hz, rfl⟩ := List.mem_map.mp hx
          have ey : y = since := List.mem_singleton.mp hy
          have := (hsn z hz).2
          omega
        · rcases List.mem_append.mp hx with h1 | h1
          · have := hsn x h1
            exact ⟨this.1, by omega⟩
          · rw [List.mem_singleton.mp h1]
            exact ⟨hs0, by show since < since + 1 + e; omega⟩
        · omega
  · obtain ⟨x4, x5, x6, x7, x8, since, rfl, hD4, G4, us, rs, ls, hF4, hRs, hlen, hls, hoks, hhd, hpw, hsn, hs0, hs12⟩ := hP
    refine ⟨_, rfl, q F0 rs ls H4 nF0 nF0d.1 hls ⟨us, hF4, hRs⟩ ⟨hlen, hoks, ?_, hpw, fun r hr => ?_⟩ hD4 G4⟩
    · cases rs with
      | nil => cases hlen
      | cons r0 r => exact hhd
    · have := hsn r hr
      exact ⟨this.1, by omega⟩
end
end K18

set_option Elab.async false
set_option linter.all false
set_option maxRecDepth 100000
set_option maxHeartbeats 4000000
namespace K18
open PySem PySem.Spec PyProof.Rows L2 OG
open C8 (pss_cut pe_gc)
open OGX

section
variable {P : Program} {w : World} {K : PySem.W.Frag} {mg : Str → Option Value} {base : Heap}
theorem ok_l_whole (T : Tops K mg) : FnOk P w K mg base CX0 3 T.fl_whole T.dl_whole ["_law_terms_here"] spWholeL := by
  have Gl_gcd : FnOk P w K mg base CX0 1 T.fl_gcd T.dl_gcd ["_law_a", "_law_b"] spGcd := ok_l_gcd T
  refine T.Fl_whole.ok (k := 2) scl_whole (fun vs H Q E h => ?_) (fun cdv A outer s H vs Q E hr h => ?_)
  · obtain ⟨F, kvs, ds, rfl, _⟩ := h
    rfl
  obtain ⟨F, kvs, ds, rfl, hF, hD, hok, hlen, q⟩ := h
  refine ⟨_, (pss_cons (ps_set (i := 1) scl_whole.nd rfl (Or.inl rfl) pe_int)
 (pss_cons (ps_lock (ps_for PassesOwn.never rfl (pi_keys (pv 0)) (pg_name (i := 2) scl_whole.nd rfl (Or.inl rfl))
  (pss_one (ps_set (i := 1) scl_whole.nd rfl (Or.inl rfl) (pe_op op_mul (pe_op op_fdiv (pv 1) (pe_call Gl_gcd (hr.mono (by omega)) (by rfl) T.gl_gcd T.Fl_gcd.kp T.bl_gcd .nil pass0 (pa_cons (pv 1) (pa_cons (pe_ix ix_tup (pe_dget (hu_of hr) (pv 0) (pv 2) (fun _ _ => rfl)) pe_int (fun _ _ => rfl)) pa_nil)))) (pe_ix ix_tup (pe_dget (hu_of hr) (pv 0) (pv 2) (fun _ _ => rfl)) pe_int (fun _ _ => rfl)))))))
 (pss_cons (ps_set (i := 3) scl_whole.nd rfl (Or.inl rfl) pe_dnewT)
 (pss_cons (ps_lock (ps_for PassesOwn.never rfl (pi_keys (pv 0)) (pg_name (i := 2) scl_whole.nd rfl (Or.inl rfl))
  (pss_one (ps_if (pt_cmpR op_ne (pe_ix ix_tup (pe_dget (hu_of hr) (pv 0) (pv 2) (fun _ _ => rfl)) pe_int (fun _ _ => rfl)) pe_int (nomark _))
  (pss_one (ps_dput (hu_of hr) (pv 3) (pv 2) (pe_op op_mul (pe_ix ix_tup (pe_dget (hu_of hr) (pv 0) (pv 2) (fun _ _ => rfl)) pe_int (fun _ _ => rfl)) (pe_op op_fdiv (pv 1) (pe_ix ix_tup (pe_dget (hu_of hr) (pv 0) (pv 2) (fun _ _ => rfl)) pe_int (fun _ _ => rfl)))) rfl))
  pss_nil))))
 (pss_one (ps_ret (pv 3))))))), ?_⟩
  have hkl : kvs.length = ds.length := hD.len
  have get : ∀ {H' : Hp} {od : Obj} {i : Nat} {k : List L2.Key} {v : V} {c : Addr}, kvs[i]? = some (k, v) → (∀ b o, b ≠ F → H b = some o → H' b = some o) → H' F = some (.frz od (.dT kvs)) → H' c = some (.tup (k.map kV)) →
      ∃ t a, ds[i]? = some t ∧ t ∈ ds ∧ k = pairK t.1 ∧ DGet H' F (.ref c) (some (.ref a)) ∧ H' a = some (.tup [.int t.2.1, .int t.2.2]) := fun {H' od i k v c} hkv keep lk hc => by
    obtain ⟨t, htt, hk, _⟩ := hD.get hkv
    have hk' : k = pairK t.1 := hk
    subst hk'
    obtain ⟨v', hv', hRv⟩ := (hD.val t.1).2 t.2 (get_at hok.apart htt)
    obtain ⟨a, w1, w2, rfl, ha, rfl, rfl⟩ := rp_t2 hRv
    have na : a ≠ F := fun z => by rw [z, hF] at ha; cases ha
    exact ⟨t, a, htt, List.mem_of_getElem? htt, rfl, .inr ⟨kvs, pairK t.1, c, .inr ⟨od, lk⟩, rfl, hc, hv'.symm⟩, keep a _ na ha⟩
  refine ⟨F, _, hF, True.intro, fun od => ⟨_, rfl, F, od, rfl, .inr ⟨kvs, upd_same, ?_⟩⟩⟩
  refine for_it walk_keysT (fun i σ H' => H' = upd H F (.frz od (.dT kvs)) ∧ ∃ (m : Int) (x2 x3 : Option V), σ = [some (.ref F), some (.int m), x2, x3] ∧ (m = 1 ∨ m = 2) ∧ ∀ t ∈ ds.take i, t.2.2 = 1 ∨ m = 2) ⟨rfl, 1, _, _, rfl, .inl rfl, fun t h => (nomatch h)⟩ (fun i σ H' _ hP => by rw [hP.1]; exact upd_same) (fun i x σ H1 H' hi hP hy => ?_) (fun σ H' hP => ?_)
  · obtain ⟨rfl, k, v, c, hkv, rfl, hc⟩ := hy
    obtain ⟨rfl, m, x2, x3, rfl, hm, hdv⟩ := hP
    obtain ⟨t, a, htt, htm, rfl, hg, ha⟩ := get (od := od) hkv (fun b o nb hb => (upd_ne nb).trans hb) upd_same hc
    have hu : t.2.2 = 1 ∨ t.2.2 = 2 := hok.low t htm
    refine ⟨_, rfl, _, rfl, _, rfl, _, rfl, F, _, rfl, hg, a, _, 1, _, rfl, rfl, SqT.of ha, rfl, m, t.2.2, rfl, _, _, rfl, rfl, ?_, _, rfl, _, rfl, F, _, rfl, hg, a, _, 1, _, rfl, rfl, SqT.of ha, rfl, _, _, rfl, rfl, ?_, ?_⟩
    · have e : ((Int.gcd m t.2.2 : Nat) : Int) = 1 ∨ ((Int.gcd m t.2.2 : Nat) : Int) = 2 := by
        rcases hm with rfl | rfl <;> rcases hu with e | e <;> rw [e] <;> decide
      exact ⟨by omega, by omega⟩
    · exact .inr ⟨by omega, by omega⟩
    · have e : m / ((Int.gcd m t.2.2 : Nat) : Int) * t.2.2 = if t.2.2 = 1 then m else 2 := by
        rcases hm with rfl | rfl <;> rcases hu with e | e <;> rw [e] <;> decide
      refine ⟨rfl, _, _, _, rfl, ?_, fun x hx => ?_⟩
      · rw [e]
        split <;> omega
      · rw [e]
        rw [List.take_add_one, htt] at hx
        rcases List.mem_append.mp hx with h | h
        · have := hdv x h
          split <;> omega
        · have e1 : x = t := by simpa using h
          rw [e1]
          split <;> omega
  obtain ⟨rfl, m, x2, x3, rfl, hm, hdv⟩ := hP
  rw [hkl, List.take_length] at hdv
  refine ⟨upd_same, ?_⟩
  have sa : Same H (upd (upd H F (.frz od (.dT kvs))) F (.dT kvs)) := fun b o hb => by
    by_cases hbF : b = F
    · rw [hbF, upd_same, ← hF, ← hbF]
      exact hb
    · rw [upd_ne hbF, upd_ne hbF]
      exact hb
  generalize upd (upd H F (.frz od (.dT kvs))) F (.dT kvs) = Ha at *
  have hFa := sa _ _ hF
  refine fun G nG => ?_
  have nGF : G ≠ F := fun z => by rw [z, hFa] at nG; cases nG
  have nGH : H G = none := by
    cases hz : H G with
    | none => rfl
    | some o =>
      rw [sa _ _ hz] at nG
      cases nG
  refine ⟨F, _, (upd_ne nGF.symm).trans hFa, True.intro, fun od2 => ⟨_, rfl, F, od2, rfl, .inr ⟨kvs, upd_same, ?_⟩⟩⟩
  refine for_it walk_keysT (fun i σ H' => (∃ (x2 : Option V), σ = [some (.ref F), some (.int m), x2, some (.ref G)]) ∧ H' F = some (.frz od2 (.dT kvs)) ∧ (∀ b o, b ≠ F → H b = some o → H' b = some o) ∧ H' G = some (.dT (wholeK m (ds.take i)))) ⟨⟨_, rfl⟩, upd_same, fun b o nb hb => ?_, (upd_ne nGF).trans upd_same⟩ (fun i σ H' _ hP => hP.2.1) (fun i x σ H1 H' hi hP hy => ?_) (fun σ H' hP => ?_)
  · have nbG : b ≠ G := fun z => by rw [z, nGH] at hb; cases hb
    rw [upd_ne nb, upd_ne nbG]
    exact sa _ _ hb
  · obtain ⟨rfl, k, v, c, hkv, rfl, hc⟩ := hy
    obtain ⟨⟨x2, rfl⟩, lkF, keep, hG⟩ := hP
    obtain ⟨t, a, htt, htm, rfl, hg, ha⟩ := get hkv keep lkF hc
    have hu : t.2.2 = 1 ∨ t.2.2 = 2 := hok.low t htm
    have ew : wholeK m (ds.take (i + 1)) = if t.2.1 ≠ 0 then wholeK m (ds.take i) ++ [(pairK t.1, V.int (t.2.1 * (m / t.2.2)))] else wholeK m (ds.take i) := by
      rw [List.take_add_one, htt]
      exact wholeK_snoc m _ t
    refine ⟨_, rfl, _, rfl, F, _, rfl, hg, a, _, 0, _, rfl, rfl, SqT.of ha, rfl, rfl, _, rfl, ite2 (fun e => ?_) (fun e => ?_)⟩
    · have hne : t.2.1 ≠ 0 := fun z => by
        rw [z] at e
        exact absurd e (by decide)
      have hfr : valV (wholeK m (ds.take i)) (pairK t.1) = none := wholeK_fresh fun x hx => take_apart hok.apart htt x hx
      have lw := wholeK_len m (ds.take i)
      rw [List.length_take] at lw
      refine ⟨_, rfl, _, rfl, F, _, rfl, hg, a, _, 0, _, rfl, rfl, SqT.of ha, rfl, _, rfl, _, rfl, _, rfl, F, _, rfl, hg, a, _, 1, _, rfl, rfl, SqT.of ha, rfl, m, t.2.2, rfl, rfl, ⟨by omega, by omega⟩, _, _, rfl, rfl, ?_, _, rfl, _, rfl, G, _, rfl, DPut.t hG hc (szl (by omega)), ?_⟩
      · refine .inr ?_
        have : m / t.2.2 = 0 ∨ m / t.2.2 = 1 ∨ m / t.2.2 = 2 := by
          rcases hm with rfl | rfl <;> rcases hu with e | e <;> rw [e] <;> decide
        exact ⟨by omega, by omega⟩
      · rw [putK_new _ hfr]
        have neG : ∀ b o, H b = some o → b ≠ G := fun b o hb z => by rw [z, nGH] at hb; cases hb
        refine ⟨⟨_, rfl⟩, (upd_ne nGF.symm).trans lkF, fun b o nb hb => (upd_ne (neG b o hb)).trans (keep b o nb hb), ?_⟩
        rw [ew, if_pos hne]
        exact upd_same
    · have hz : t.2.1 = 0 := Classical.byContradiction fun z => e (by
        rw [decide_eq_false (fun y => z (V.int.inj y))]
        rfl)
      refine ⟨⟨_, rfl⟩, lkF, keep, ?_⟩
      rw [ew, if_neg (fun z => z hz)]
      exact hG
  · obtain ⟨⟨x2, rfl⟩, lkF, keep, hG⟩ := hP
    rw [hkl, List.take_length] at hG
    refine ⟨lkF, _, rfl, q G m _ (fun b o hb => ?_) nGH hm hdv ((upd_ne nGF).trans hG)⟩
    by_cases hbF : b = F
    · rw [hbF, upd_same, ← hF, ← hbF]
      exact hb
    · exact (upd_ne hbF).trans (keep b o hbF hb)
theorem ok_l_left_over (T : Tops K mg) : FnOk P w K mg base CX0 4 T.fl_left_over T.dl_left_over ["_law_one", "_law_other"] spLeftOver := by
  have Gl_lowest : FnOk P w K mg base CX0 2 T.fl_lowest T.dl_lowest ["_law_over", "_law_under"] spLowest := ok_l_lowest T
  have Gl_whole : FnOk P w K mg base CX0 3 T.fl_whole T.dl_whole ["_law_terms_here"] spWholeL := ok_l_whole T
  refine T.Fl_left_over.ok (k := 3) scl_left_over (fun vs H Q E h => ?_) (fun cdv A outer s H vs Q E hr h => ?_)
  · obtain ⟨l1, l2, ts1, ts2, rfl, _⟩ := h
    rfl
  obtain ⟨l1, l2, ts1, ts2, rfl, ⟨us1, hl1, hR1⟩, ⟨us2, hl2, hR2⟩, k1, k2, n1, n2, q⟩ := h
  refine ⟨_, (pss_cons (ps_set (i := 2) scl_left_over.nd rfl (Or.inl rfl) pe_dnewT)
 (pss_cons (ps_for PassesOwn.never rfl (pi_list (pv 0)) (pg_tup rfl (pgs_cons (pg_name (i := 3) scl_left_over.nd rfl (Or.inl rfl)) (pgs_cons (pg_name (i := 4) scl_left_over.nd rfl (Or.inl rfl)) pgs_nil)))
  (pss_one (ps_dput (hu_of hr) (pv 2) (pv 3) (pv 4) rfl)))
 (pss_cons (ps_for PassesOwn.never rfl (pi_list (pv 1)) (pg_tup rfl (pgs_cons (pg_name (i := 3) scl_left_over.nd rfl (Or.inl rfl)) (pgs_cons (pg_name (i := 4) scl_left_over.nd rfl (Or.inl rfl)) pgs_nil)))
  (pss_cons (ps_asg (pe_dget2 (hu_of hr) (pv 2) (pv 3) (pe_tup (pa_cons pe_int (pa_cons pe_int pa_nil))) ⟨by rfl, by rfl, by rfl, by rfl⟩) (pg_tup rfl (pgs_cons (pg_name (i := 5) scl_left_over.nd rfl (Or.inl rfl)) (pgs_cons (pg_name (i := 6) scl_left_over.nd rfl (Or.inl rfl)) pgs_nil))))
 (pss_one (ps_dput (hu_of hr) (pv 2) (pv 3) (pe_call Gl_lowest (hr.mono (by omega)) (by rfl) T.gl_lowest T.Fl_lowest.kp T.bl_lowest .nil pass0 (pa_cons (pe_op op_sub (pe_op op_mul (pv 5) (pe_ix ix_tup (pv 4) pe_int (fun _ _ => rfl))) (pe_op op_mul (pe_ix ix_tup (pv 4) pe_int (fun _ _ => rfl)) (pv 6))) (pa_cons (pe_op op_mul (pv 6) (pe_ix ix_tup (pv 4) pe_int (fun _ _ => rfl))) pa_nil))) rfl))))
 (pss_one (ps_ret (pe_call Gl_whole (hr.mono (by omega)) (by rfl) T.gl_whole T.Fl_whole.kp T.bl_whole .nil pass0 (pa_cons (pv 2) pa_nil))))))), ?_⟩
  refine fun F nF => ?_
  have s0 : Same H (upd H F (.dT [])) := same_new nF
  refine ⟨_, rfl, l1, rfl, ⟨_, SqL.of (s0 _ _ hl1)⟩, ?_⟩
  refine for_list (xs := us1) (fun i σ H' => Same H H' ∧ DAt H' F (ts1.take i) ∧ ∃ x3 x4 x5 x6, σ = [some (.ref l1), some (.ref l2), some (.ref F), x3, x4, x5, x6]) ⟨s0, ⟨[], upd_same, True.intro⟩, _, _, _, _, rfl⟩ (fun i σ H' _ hP => SqL.of (hP.1 _ _ hl1)) (fun i x σ H2 hx hP => ?_) (fun σ H2 hP => ?_)
  · obtain ⟨s2, ⟨kvs, hF, hD⟩, x3, x4, x5, x6, rfl⟩ := hP
    obtain ⟨t, htt, hRt⟩ := rpl_terms hR1 hx
    obtain ⟨c, v1, v2', rfl, hc, h1, h2⟩ := rp_t2 hRt
    obtain ⟨e, w1, w2, rfl, he, rfl, rfl⟩ := rp_t2 h1
    have ht : t ∈ ts1 := List.mem_of_getElem? htt
    have hnew : ∀ x ∈ ts1.take i, x.1 ≠ t.1 := fun x hx z => by
      obtain ⟨j, hj⟩ := List.getElem?_of_mem hx
      have hji : j < i := by
        have := (List.getElem?_eq_some_iff.mp hj).1
        rw [List.length_take] at this
        omega
      rw [List.getElem?_take_of_lt hji] at hj
      have e1 : (ts1.map (·.1))[j]? = some t.1 := by rw [List.getElem?_map, hj]; exact congrArg some z
      have e2 : (ts1.map (·.1))[i]? = some t.1 := by rw [List.getElem?_map, htt]; rfl
      have hlt : j < (ts1.map (·.1)).length := (List.getElem?_eq_some_iff.mp e1).1
      have := (List.getElem?_inj hlt k1.apart).mp (e1.trans e2.symm)
      omega
    have hset : setT (ts1.take i) t.1 t.2 = ts1.take (i + 1) := by
      rw [List.take_add_one, htt]
      exact set_new hnew
    have hlen : kvs.length < sizeLine := by
      rw [hD.len, List.length_take, sizeLine_eq]
      omega
    have hke : H2 e = some (.tup ((pairK t.1).map kV)) := s2 _ _ he
    refine ⟨c, _, rfl, SqT.of (s2 _ _ hc), rfl, _, _, rfl, _, _, rfl, rfl, ?_⟩
    refine ⟨_, rfl, _, rfl, _, rfl, F, _, rfl, DPut.t hF hke hlen, ?_⟩
    have i2 : Imm H2 (upd H2 F (.dT (putK kvs (pairK t.1) v2'))) := (Imm.refl H2).upd fun xs z => by rw [hF] at z; cases z
    refine ⟨Same.upd_new s2 nF, ⟨_, upd_same, ?_⟩, _, _, _, _, rfl⟩
    rw [← hset]
    exact (hD.put (h2.to (Imm.same s2)) ((List.Sublist.map _ (List.take_sublist _ _)).nodup k1.apart)).to i2
  obtain ⟨s2, hD0, x3, x4, x5, x6, rfl⟩ := hP
  have len1 : us1.length = ts1.length := hR1.length.trans (List.length_map _)
  rw [len1, List.take_length] at hD0
  refine ⟨_, rfl, l2, rfl, ⟨_, SqL.of (s2 _ _ hl2)⟩, ?_⟩
  refine for_list (xs := us2) (fun i σ H' => Same H H' ∧ DAt H' F ((ts2.take i).foldl stepT ts1) ∧ ∃ x3 x4 x5 x6, σ = [some (.ref l1), some (.ref l2), some (.ref F), x3, x4, x5, x6]) ⟨s2, hD0, _, _, _, _, rfl⟩ (fun i σ H' _ hP => SqL.of (hP.1 _ _ hl2)) (fun i x σ H3 hx hP => ?_) (fun σ H3 hP => ?_)
  · obtain ⟨s3, ⟨kvs, hF, hD⟩, y3, y4, y5, y6, rfl⟩ := hP
    obtain ⟨t, htt, hRt⟩ := rpl_terms hR2 hx
    obtain ⟨c, v1, v2', rfl, hc, h1, h2⟩ := rp_t2 hRt
    obtain ⟨e, w1, w2, rfl, he, rfl, rfl⟩ := rp_t2 h1
    have ht : t ∈ ts2 := List.mem_of_getElem? htt
    have hok := (foldu_ok (ts2.take i) ts1 k1 (k2.take i)).1
    have hke : H3 e = some (.tup ((pairK t.1).map kV)) := s3 _ _ he
    refine ⟨c, _, rfl, SqT.of (s3 _ _ hc), rfl, _, _, rfl, _, _, rfl, rfl, ?_⟩
    have hlow := lowu_get hok.low t.1
    have b2 : t.2.2 = 1 ∨ t.2.2 = 2 := k2.low t ht
    obtain ⟨a2, u1, u2, rfl, ha2, rfl, rfl⟩ := rp_t2 h2
    have ha3 := s3 _ _ ha2
    refine ⟨_, rfl, F, rfl, .inr ⟨kvs, .inl hF⟩, _, rfl, (by show 2 ≤ sizeLine; decide), fun z nz => ?_⟩
    have s4 := same_new (o := .tup [.int 0, .int 1]) nz
    have hF4 := s4 _ _ hF
    have hpart : ∃ g, (valV kvs (pairK t.1)).getD (.ref z) = .ref g ∧ (upd H3 z (.tup [.int 0, .int 1])) g = some (.tup [.int ((getT ((ts2.take i).foldl stepT ts1) t.1).getD (0, 1)).1, .int ((getT ((ts2.take i).foldl stepT ts1) t.1).getD (0, 1)).2]) := by
      obtain ⟨g1, g2⟩ := hD.val t.1
      cases hg : getT ((ts2.take i).foldl stepT ts1) t.1 with
      | none =>
        rw [g1 hg]
        exact ⟨z, rfl, upd_same⟩
      | some o =>
        obtain ⟨v, hv, hr⟩ := g2 o hg
        obtain ⟨a, q1, q2, rfl, ha, rfl, rfl⟩ := rp_t2 hr
        rw [hv]
        exact ⟨a, rfl, s4 _ _ ha⟩
    obtain ⟨g, eg, hg⟩ := hpart
    generalize hp : (getT ((ts2.take i).foldl stepT ts1) t.1).getD (0, 1) = p0 at *
    refine ⟨_, DGet.t hF4 (s4 _ _ hke), ?_⟩
    rw [eg]
    refine ⟨g, _, rfl, SqT.of hg, rfl, _, _, rfl, _, _, rfl, rfl, ?_⟩
    have hl0 : p0.2 = 1 ∨ p0.2 = 2 := hlow
    have ha4 := s4 _ _ ha3
    refine ⟨_, rfl, _, rfl, a2, _, 1, _, rfl, rfl, SqT.of ha4, rfl, _, _, rfl, rfl, .inr ⟨by omega, by omega⟩, _, rfl, a2, _, 0, _, rfl, rfl, SqT.of ha4, rfl, _, rfl, _, _, rfl, rfl, .inr ⟨by omega, by omega⟩, _, _, rfl, rfl, _, rfl, _, rfl, a2, _, 1, _, rfl, rfl, SqT.of ha4, rfl, _, _, rfl, rfl, .inr ⟨by omega, by omega⟩, ?_⟩
    have hprod : p0.2 * t.2.2 = 1 ∨ p0.2 * t.2.2 = 2 ∨ p0.2 * t.2.2 = 4 := by
      rcases hl0 with e | e <;> rcases b2 with f | f <;> rw [e, f] <;> decide
    refine ⟨_, _, rfl, by omega, Nat.lt_of_le_of_lt (m := 4) (by omega) (by decide +kernel), fun w4 H5 s5 hR5 => ?_⟩
    have hF5 := s5 _ _ hF4
    have hlen : kvs.length < sizeLine := by
      rw [hD.len, sizeLine_eq]
      have := fold_len (ts2.take i) ts1
      have : (ts2.take i).length ≤ ts2.length := by rw [List.length_take]; omega
      omega
    refine ⟨_, rfl, _, rfl, F, _, rfl, DPut.t hF5 (s5 _ _ (s4 _ _ hke)) hlen, ?_⟩
    have i5 : Imm H5 (upd H5 F (.dT (putK kvs (pairK t.1) w4))) := (Imm.refl H5).upd fun xs z => by rw [hF5] at z; cases z
    refine ⟨Same.upd_new ((s3.trans s4).trans s5) nF, ⟨_, upd_same, ?_⟩, _, _, _, _, rfl⟩
    have ep : encP (lowOf (p0.1 * t.2.2 - t.2.1 * p0.2) (p0.2 * t.2.2)) = encP (lessP p0 t.2) := by
      unfold lessP
      rw [show p0.1 * t.2.2 - t.2.1 * p0.2 = p0.1 * t.2.2 + -t.2.1 * p0.2 by grind]
    rw [ep] at hR5
    rw [List.take_add_one, htt]
    show PD _ _ ((ts2.take i ++ [t]).foldl stepT ts1)
    rw [List.foldl_append]
    rw [← hp] at hR5
    exact ((hD.to (Imm.same (s4.trans s5))).put hR5 hok.apart).to i5
  obtain ⟨s3, ⟨kvs, hF3, hD3⟩, y3, y4, y5, y6, rfl⟩ := hP
  have len2 : us2.length = ts2.length := hR2.length.trans (List.length_map _)
  rw [len2, List.take_length] at hD3
  have hok : DOF (ts2.foldl stepT ts1) := (foldu_ok ts2 ts1 k1 k2).1
  have hdl := fold_len ts2 ts1
  refine ⟨_, rfl, F, kvs, _, rfl, hF3, hD3, hok, by omega, fun G m H' s4 nG hm hdv hG => q G m H' (s3.trans s4) ?_ hm hdv hG⟩
  cases hz : H G with
  | none => rfl
  | some o =>
    rw [s3 _ _ hz] at nG
    cases nG
end
end K18

set_option Elab.async false
set_option linter.all false
set_option maxRecDepth 100000
set_option maxHeartbeats 4000000
namespace K18
open PySem PySem.Spec PyProof.Rows L2 OG
open C8 (pss_cut pe_gc)
open OGX

section
variable {P : Program} {w : World} {K : PySem.W.Frag} {mg : Str → Option Value} {base : Heap}
def spPowX : Sp := fun vs H Q _ => ∃ (b : Int) (e : Nat), vs = [.int b, .int e] ∧ b.natAbs < 2 ^ 2200 ∧ e ≤ 9 ∧ Q (.int (b ^ e)) H
def spLawAtX : Sp := fun vs H Q _ => ∃ (S : Addr) (rs : List OG.Row) (ls : List Addr) (n : Int), vs = [.ref S, .int n] ∧ SumsAt H S rs ls ∧ ROk rs ∧ 0 ≤ n ∧ n.natAbs < 2 ^ 2199 ∧ ∀ v H', Same H H' → Rp H' v (encP (worthOf rs n)) → Q v H'
theorem figsX {n : Int} (h0 : 0 ≤ n) (h : n.natAbs < 2 ^ 2199) : figs n ≤ 2199 := figs_le_of h0 (by
  have e : ((2 ^ 2199 : Nat) : Int) = (2 : Int) ^ 2199 := by rw [Int.natCast_pow]; rfl
  omega)
theorem ok_l_raisedW (T : Tops K mg) : FnOk P w K mg base CX0 1 T.fl_raised T.dl_raised ["_law_part", "_law_upto"] spPowX := by
  refine T.Fl_raised.ok (k := 0) scl_raised (fun vs H Q E h => ?_) (fun cdv A outer s H vs Q E hr h => ?_)
  · obtain ⟨b, e, rfl, _⟩ := h
    rfl
  obtain ⟨b, e, rfl, hb, he, q⟩ := h
  refine ⟨_, (pss_cons (ps_set (i := 2) scl_raised.nd rfl (Or.inl rfl) pe_int)
 (pss_cons (ps_for PassesOwn.never rfl (pi_range1 (by rfl) T.mrange (pa_cons (pv 1) pa_nil)) (pg_name (i := 3) scl_raised.nd rfl (Or.inl rfl))
  (pss_one (ps_set (i := 2) scl_raised.nd rfl (Or.inl rfl) (pe_op op_mulW (pv 2) (pv 0)))))
 (pss_one (ps_ret (pv 2))))), ?_⟩
  refine ⟨_, rfl, e, rfl, by omega, by omega, ?_⟩
  refine for_range (n := ((e : Nat) : Int).toNat) (fun i σ H' => H' = H ∧ ∃ x3, σ = [some (.int b), some (.int e), some (.int (b ^ i)), x3]) ⟨rfl, none, by rw [Int.pow_zero]; rfl⟩ (fun i σ H2 hi hP => ?_) (fun σ H2 hP => ?_)
  · obtain ⟨rfl, x3, rfl⟩ := hP
    refine ⟨_, rfl, _, rfl, _, _, rfl, rfl, wide_mul (pow_abs b i hb) hb (by omega) (by decide) (by omega), rfl, some (.int (0 + (i : Int))), ?_⟩
    rw [Int.pow_succ]
    rfl
  · obtain ⟨rfl, x3, rfl⟩ := hP
    exact ⟨_, rfl, q⟩
theorem ok_l_sums_at (T : Tops K mg) : FnOk P w K mg base CX0 3 T.fl_sums_at T.dl_sums_at ["_law_sums", "_law_size"] spLawAtX := by
  have Gl_raised : FnOk P w K mg base CX0 1 T.fl_raised T.dl_raised ["_law_part", "_law_upto"] spPowX := ok_l_raisedW T
  have Gl_lowest : FnOk P w K mg base CX0 2 T.fl_lowest T.dl_lowest ["_law_over", "_law_under"] spLowest := ok_l_lowest T
  refine T.Fl_sums_at.ok (k := 2) scl_sums_at (fun vs H Q E h => ?_) (fun cdv A outer s H vs Q E hr h => ?_)
  · obtain ⟨S, rs, ls, n, rfl, _⟩ := h
    rfl
  obtain ⟨S, rs, ls, n, rfl, hSm, hok, hn, hn2, q⟩ := h
  refine ⟨_, (pss_cons (ps_set (i := 2) scl_sums_at.nd rfl (Or.inl rfl) (pe_lst pa_nil))
 (pss_cons (ps_for PassesOwn.never rfl (pi_list (pv 0)) (pg_tup rfl (pgs_cons (pg_name (i := 3) scl_sums_at.nd rfl (Or.inl rfl)) (pgs_cons (pg_name (i := 4) scl_sums_at.nd rfl (Or.inl rfl)) pgs_nil)))
  (pss_one (ps_if (pt_cmpR op_le (pv 3) (pv 1) (nomark _))
  (pss_one (ps_set (i := 2) scl_sums_at.nd rfl (Or.inl rfl) (pv 4)))
  pss_nil)))
 (pss_cons (ps_asg (pe_tup (pa_cons pe_int (pa_cons pe_int pa_nil))) (pg_tup rfl (pgs_cons (pg_name (i := 5) scl_sums_at.nd rfl (Or.inl rfl)) (pgs_cons (pg_name (i := 6) scl_sums_at.nd rfl (Or.inl rfl)) pgs_nil))))
 (pss_cons (ps_for PassesOwn.never rfl (pi_list (pv 2)) (pg_tup rfl (pgs_cons (pg_tup rfl (pgs_cons (pg_name (i := 9) scl_sums_at.nd rfl (Or.inl rfl)) (pgs_cons (pg_name (i := 10) scl_sums_at.nd rfl (Or.inl rfl)) pgs_nil))) (pgs_cons (pg_name (i := 7) scl_sums_at.nd rfl (Or.inl rfl)) pgs_nil)))
  (pss_cons (ps_set (i := 8) scl_sums_at.nd rfl (Or.inl rfl) (pe_op op_mulW (pe_op op_mulW (pe_ix ix_tup (pv 7) pe_int (fun _ _ => rfl)) (pe_call Gl_raised (hr.mono (by omega)) (by rfl) T.gl_raised T.Fl_raised.kp T.bl_raised .nil pass0 (pa_cons (pv 1) (pa_cons (pv 9) pa_nil)))) (pe_call Gl_raised (hr.mono (by omega)) (by rfl) T.gl_raised T.Fl_raised.kp T.bl_raised .nil pass0 (pa_cons (pe_bits (pv 1)) (pa_cons (pv 10) pa_nil)))))
 (pss_one (ps_par (i := 5) (j := 6) (by rfl) scl_sums_at.nd rfl rfl (by decide) rfl rfl (pa_cons (pe_op op_add (pe_op op_mul (pv 5) (pe_ix ix_tup (pv 7) pe_int (fun _ _ => rfl))) (pe_op op_mul (pv 8) (pv 6))) (pa_cons (pe_op op_mul (pv 6) (pe_ix ix_tup (pv 7) pe_int (fun _ _ => rfl))) pa_nil)) (by rfl)))))
 (pss_one (ps_ret (pe_call Gl_lowest (hr.mono (by omega)) (by rfl) T.gl_lowest T.Fl_lowest.kp T.bl_lowest .nil pass0 (pa_cons (pv 5) (pa_cons (pv 6) pa_nil))))))))), ?_⟩
  obtain ⟨us, hS, hR⟩ := id hSm
  have lu := hR.len
  have pos := hok.pos hn
  have le := rowIx_le rs n
  refine ⟨Nat.zero_le _, fun E0 nE => ?_⟩
  have s0 : Same H (upd H E0 (.lst [])) := same_new nE
  refine ⟨_, rfl, S, rfl, ⟨_, SqL.of (s0 _ _ hS)⟩, ?_⟩
  refine for_list (xs := us) (fun i σ H' => H' = upd H E0 (.lst []) ∧ ∃ l x3 x4 x5 x6 x7 x8 x9 x10, σ = [some (.ref S), some (.int n), some (.ref l), x3, x4, x5, x6, x7, x8, x9, x10] ∧ (0 < i → ls[min i (rowIx rs n) - 1]? = some l))
    ⟨rfl, _, _, _, _, _, _, _, _, _, rfl, fun z => absurd z (Nat.lt_irrefl 0)⟩ (fun i σ H' _ hP => by rw [hP.1]; exact SqL.of (s0 _ _ hS)) (fun i x σ H2 hx hP => ?_) (fun σ H2 hP => ?_)
  · obtain ⟨rfl, l0, x3, x4, x5, x6, x7, x8, x9, x10, rfl, hl0⟩ := hP
    obtain ⟨r, l, hr1, hll, hRr⟩ := (hR.same s0).get hx
    obtain ⟨b, rfl, hb, _⟩ := hRr
    refine ⟨b, _, rfl, SqT.of hb, rfl, _, _, rfl, _, _, rfl, rfl, ?_⟩
    refine ⟨_, rfl, _, rfl, _, _, rfl, rfl, _, rfl, ite2 (fun c => ?_) (fun c => ?_)⟩
    · have c1 : r.1 ≤ n := of_decide_eq_true c
      have hlt := (rowIx_iff hok.rises hr1).mp c1
      refine ⟨_, rfl, rfl, l, _, _, _, _, _, _, _, _, rfl, fun _ => ?_⟩
      rw [Nat.min_eq_left (by omega)]
      exact hll
    · have c1 : ¬ r.1 ≤ n := fun z => c (decide_eq_true z)
      have hnl : ¬ i < rowIx rs n := fun z => c1 ((rowIx_iff hok.rises hr1).mpr z)
      refine ⟨rfl, l0, _, _, _, _, _, _, _, _, rfl, fun _ => ?_⟩
      rw [Nat.min_eq_right (by omega)]
      have := hl0 (by omega)
      rw [Nat.min_eq_right (by omega)] at this
      exact this
  · obtain ⟨rfl, l, x3, x4, x5, x6, x7, x8, x9, x10, rfl, hl0⟩ := hP
    have hle : ls[rowIx rs n - 1]? = some l := by
      have := hl0 (by omega)
      rw [Nat.min_eq_right (by omega)] at this
      exact this
    have hu : us[rowIx rs n - 1]? = some (us[rowIx rs n - 1]'(by omega)) := List.getElem?_eq_getElem (by omega)
    obtain ⟨r, l2, hr1, hl2, hRr⟩ := (hR.same s0).get hu
    have el : l2 = l := Option.some.inj (hl2.symm.trans hle)
    subst el
    obtain ⟨b, eb, hb, ws, hl, hW⟩ := hRr
    have ets := rowTs_of hr1
    obtain ⟨hr8, hts⟩ := hok.terms r (List.mem_of_getElem? hr1)
    have lw := hW.length
    rw [List.length_map] at lw
    have hun : ∀ t ∈ r.2, 1 ≤ t.2.2 ∧ t.2.2 ≤ 2 := fun t ht => ⟨(hts t ht).2.2.2.2.2.1, (hts t ht).2.2.2.2.2.2⟩
    have hf := figsX hn hn2
    have under : ∀ i : Nat, 1 ≤ (sumUp n (r.2.take i)).2 ∧ (sumUp n (r.2.take i)).2 ≤ 256 := fun i => by
      have su := sum_under n (r.2.take i) (0, 1) (fun t ht => hun t (List.mem_of_mem_take ht)) (by decide)
      refine ⟨su.1, ?_⟩
      have h8 : (r.2.take i).length ≤ 8 := by rw [List.length_take]; omega
      have h9 : ∀ k : Nat, k ≤ 8 → (2 : Int) ^ k ≤ 256 := by decide +kernel
      have h2' := su.2
      have e1 : ((0, 1) : Int × Int).2 = 1 := rfl
      rw [e1, Int.one_mul] at h2'
      exact Int.le_trans h2' (h9 _ h8)
    refine ⟨(by show 2 ≤ sizeLine; decide), fun p np => ?_⟩
    have sp : Same (upd H E0 (.lst [])) (upd (upd H E0 (.lst [])) p (.tup [.int 0, .int 1])) := same_new np
    refine ⟨p, _, rfl, SqT.of upd_same, rfl, _, _, rfl, _, _, rfl, rfl, ?_⟩
    replace hl := sp _ _ hl
    replace hW := hW.to (Imm.same sp)
    refine ⟨_, rfl, l2, rfl, ⟨_, SqL.of hl⟩, ?_⟩
    refine for_list (xs := ws) (fun i σ H' => H' = upd (upd H E0 (.lst [])) p (.tup [.int 0, .int 1]) ∧ ∃ x3 x4 x7 x8 x9 x10, σ = [some (.ref S), some (.int n), some (.ref l2), x3, x4, some (.int (sumUp n (r.2.take i)).1), some (.int (sumUp n (r.2.take i)).2), x7, x8, x9, x10])
      ⟨rfl, _, _, _, _, _, _, rfl⟩ (fun i σ H' _ hP => by rw [hP.1]; exact SqL.of hl) (fun i x σ H2 hx hP => ?_) (fun σ H2 hP => ?_)
    · obtain ⟨rfl, y3, y4, y7, y8, y9, y10, rfl⟩ := hP
      obtain ⟨t, htt, hRt⟩ := rpl_terms hW hx
      obtain ⟨c, v1, v2, rfl, hc, h1, h2⟩ := rp_t2 hRt
      obtain ⟨e, w1, w2, rfl, he, rfl, rfl⟩ := rp_t2 h1
      obtain ⟨f, w3, w4, rfl, hf2, rfl, rfl⟩ := rp_t2 h2
      obtain ⟨t1, t2, t3, t4, t5, t6, t7⟩ := hts t (List.mem_of_getElem? htt)
      refine ⟨c, _, rfl, SqT.of hc, rfl, _, _, rfl, e, _, rfl, SqT.of he, rfl, _, _, rfl, _, _, rfl, rfl, _, _, rfl, rfl, ?_⟩
      have ep : t.1.1 = ((t.1.1.toNat : Nat) : Int) := by omega
      have ef : t.1.2 = ((t.1.2.toNat : Nat) : Int) := by omega
      have bn : n.natAbs < 2 ^ 2200 := Nat.lt_of_lt_of_le hn2 (Nat.pow_le_pow_right (by decide) (by decide))
      have bfx := figsX hn hn2
      have bf : ((figs n : Nat) : Int).natAbs < 2 ^ 12 := by omega
      have bpf := pow_abs ((figs n : Nat) : Int) t.1.2.toNat bf
      have bpn := pow_abs n t.1.1.toNat bn
      refine ⟨_, rfl, f, _, 0, _, rfl, rfl, SqT.of hf2, rfl, _, rfl, _, rfl, n, t.1.1.toNat, by rw [← ep]; rfl, bn, by omega, ?_⟩
      refine ⟨_, _, rfl, rfl, wide_mul t5 bpn (by decide) (by omega) (by omega), ?_⟩
      refine ⟨_, rfl, n, rfl, _, rfl, ((figs n : Nat) : Int), t.1.2.toNat, by rw [← ef]; rfl, Nat.lt_of_lt_of_le bf (Nat.pow_le_pow_right (by decide) (by decide)), by omega, ?_⟩
      refine ⟨_, _, rfl, rfl, wide_mul (wide_lt t5 bpn) bpf (by omega) (by omega) (by omega), ?_⟩
      have un := under i
      refine ⟨_, rfl, _, rfl, f, _, 1, _, rfl, rfl, SqT.of hf2, rfl, _, _, rfl, rfl, .inr ⟨by omega, by omega⟩, ?_⟩
      refine ⟨_, rfl, _, rfl, _, _, rfl, rfl, .inr ⟨by omega, by omega⟩, ?_⟩
      refine ⟨_, _, rfl, rfl, ?_⟩
      refine ⟨_, rfl, _, rfl, f, _, 1, _, rfl, rfl, SqT.of hf2, rfl, _, _, rfl, rfl, .inr ⟨by omega, by omega⟩, ?_⟩
      have est : sumUp n (r.2.take (i + 1)) = addT n (sumUp n (r.2.take i)) t := by
        unfold sumUp
        rw [List.take_add_one, htt, List.foldl_append]
        rfl
      refine ⟨_, _, rfl, rfl, ?_⟩
      rw [est]
      exact ⟨_, _, _, _, _, _, rfl⟩
    · obtain ⟨rfl, y3, y4, y7, y8, y9, y10, rfl⟩ := hP
      rw [lw, List.take_length]
      have un := under r.2.length
      rw [List.take_length] at un
      refine ⟨_, rfl, _, rfl, _, _, rfl, un.1, ?_, fun v H3 s3 hR3 => ?_⟩
      · have : (sumUp n r.2).2.natAbs < 2 ^ 10 := by omega
        exact Nat.lt_of_lt_of_le this (Nat.pow_le_pow_right (by decide) (by decide))
      · refine q v H3 ((s0.trans sp).trans s3) ?_
        unfold worthOf
        rw [ets]
        exact hR3
end
end K18

set_option Elab.async false
set_option linter.all false
set_option maxRecDepth 100000
set_option maxHeartbeats 4000000
namespace K18
open PySem PySem.Spec PyProof.Rows L2 OG
open C8 (pss_cut pe_gc)
open OGX

section
variable {P : Program} {w : World} {K : PySem.W.Frag} {mg : Str → Option Value} {base : Heap}
theorem ok_l_signum (T : Tops K mg) : FnOk P w K mg base CX0 1 T.fl_signum T.dl_signum ["_law_number"] spSg := by
  refine T.Fl_signum.ok (k := 0) scl_signum (fun vs H Q E h => ?_) (fun cdv A outer s H vs Q E hr h => ?_)
  · obtain ⟨n, rfl, _⟩ := h
    rfl
  obtain ⟨n, rfl, q⟩ := h
  refine ⟨_, (pss_one (ps_ret (pe_op op_sub (pe_callTy call_int1 (by rfl) T.mint (by decide +kernel) (pa_cons (pe_cmpR op_gt (pv 0) pe_int (nomark _)) pa_nil)) (pe_callTy call_int1 (by rfl) T.mint (by decide +kernel) (pa_cons (pe_cmpR op_lt (pv 0) pe_int (nomark _)) pa_nil))))), ?_⟩
  refine ⟨_, rfl, _, 0, rfl, rfl, .inr ⟨_, rfl, _, rfl, _, 0, rfl, rfl, .inr ⟨_, rfl, _, _, rfl, rfl, ?_⟩⟩⟩
  rcases sgX_cases n with ⟨h, k⟩ | ⟨h, k⟩ | ⟨h, k⟩
  · rw [decide_eq_false (by omega), decide_eq_false (by omega)]
    rw [k] at q
    exact q
  · rw [decide_eq_true h, decide_eq_false (by omega)]
    rw [k] at q
    exact q
  · rw [decide_eq_false (by omega), decide_eq_true h]
    rw [k] at q
    exact q
def spSignAtX : Sp := fun vs H Q _ => ∃ (S1 : Addr) (rs1 : List OG.Row) (ls1 : List Addr) (S2 : Addr) (rs2 : List OG.Row) (ls2 : List Addr) (n : Int), vs = [.ref S1, .ref S2, .int n] ∧ SumsAt H S1 rs1 ls1 ∧ SumsAt H S2 rs2 ls2 ∧ ROk rs1 ∧ ROk rs2 ∧ 0 ≤ n ∧ n.natAbs < 2 ^ 2199 ∧ ∀ H', Same H H' → Q (.int (sgX (dif2 rs1 rs2 n))) H'
theorem ok_l_sign_at (T : Tops K mg) : FnOk P w K mg base CX0 4 T.fl_sign_at T.dl_sign_at ["_law_one", "_law_other", "_law_size"] spSignAtX := by
  have Gl_sums_at : FnOk P w K mg base CX0 3 T.fl_sums_at T.dl_sums_at ["_law_sums", "_law_size"] spLawAtX := ok_l_sums_at T
  have Gl_signum : FnOk P w K mg base CX0 1 T.fl_signum T.dl_signum ["_law_number"] spSg := ok_l_signum T
  refine T.Fl_sign_at.ok (k := 3) scl_sign_at (fun vs H Q E h => ?_) (fun cdv A outer s H vs Q E hr h => ?_)
  · obtain ⟨S1, rs1, ls1, S2, rs2, ls2, n, rfl, _⟩ := h
    rfl
  obtain ⟨S1, rs1, ls1, S2, rs2, ls2, n, rfl, h1, h2, k1, k2, n0, n1, q⟩ := h
  refine ⟨_, (pss_cons (ps_par (i := 3) (j := 4) (by rfl) scl_sign_at.nd rfl rfl (by decide) rfl rfl (pa_cons (pe_call Gl_sums_at (hr.mono (by omega)) (by rfl) T.gl_sums_at T.Fl_sums_at.kp T.bl_sums_at .nil pass0 (pa_cons (pv 0) (pa_cons (pv 2) pa_nil))) (pa_cons (pe_call Gl_sums_at (hr.mono (by omega)) (by rfl) T.gl_sums_at T.Fl_sums_at.kp T.bl_sums_at .nil pass0 (pa_cons (pv 1) (pa_cons (pv 2) pa_nil))) pa_nil)) (by rfl))
 (pss_one (ps_ret (pe_call Gl_signum (hr.mono (by omega)) (by rfl) T.gl_signum T.Fl_signum.kp T.bl_signum .nil pass0 (pa_cons (pe_op op_sub (pe_op op_mul (pe_ix ix_tup (pv 3) pe_int (fun _ _ => rfl)) (pe_ix ix_tup (pv 4) pe_int (fun _ _ => rfl))) (pe_op op_mul (pe_ix ix_tup (pv 4) pe_int (fun _ _ => rfl)) (pe_ix ix_tup (pv 3) pe_int (fun _ _ => rfl)))) pa_nil))))), ?_⟩
  refine ⟨_, rfl, _, rfl, S1, rs1, ls1, n, rfl, h1, k1, n0, n1, fun v1 H1 s1 hR1 => ?_⟩
  refine ⟨_, rfl, _, rfl, S2, rs2, ls2, n, rfl, h2.same s1, k2, n0, n1, fun v2 H2 s2 hR2 => ?_⟩
  obtain ⟨a1, w1, w2, rfl, ha1, rfl, rfl⟩ := rp_t2 hR1
  obtain ⟨a2, w3, w4, rfl, ha2, rfl, rfl⟩ := rp_t2 hR2
  have ha1' := s2 _ _ ha1
  obtain ⟨u1, u2⟩ := worth_under k1 n
  obtain ⟨u3, u4⟩ := worth_under k2 n
  have e256 : (256 : Int) < 2 ^ 64 := by decide
  refine ⟨_, _, rfl, ?_⟩
  refine ⟨_, rfl, a1, _, 0, _, rfl, rfl, SqT.of ha1', rfl, _, rfl, a2, _, 1, _, rfl, rfl, SqT.of ha2, rfl, _, _, rfl, rfl, .inr ⟨by omega, by omega⟩, ?_⟩
  refine ⟨_, rfl, a2, _, 0, _, rfl, rfl, SqT.of ha2, rfl, _, rfl, a1, _, 1, _, rfl, rfl, SqT.of ha1', rfl, _, _, rfl, rfl, .inr ⟨by omega, by omega⟩, ?_⟩
  exact ⟨_, _, rfl, rfl, _, rfl, q H2 (s1.trans s2)⟩
end
end K18

set_option Elab.async false
set_option linter.all false
set_option maxRecDepth 100000
set_option maxHeartbeats 4000000
namespace K18
open PySem PySem.Spec PyProof.Rows L2 OG
open C8 (pss_cut pe_gc)
open OGX

section
variable {P : Program} {w : World} {K : PySem.W.Frag} {mg : Str → Option Value} {base : Heap}
def spInt : Sp := fun vs H Q _ => ∃ i : Int, vs = [.int i] ∧ Q (.bl true) H
theorem ok_l_int (T : Tops K mg) : FnOk P w K mg base CX0 1 T.fl_int T.dl_int ["_law_thing"] spInt := by
  refine T.Fl_int.ok (k := 0) scl_int (fun vs H Q E h => ?_) (fun cdv A outer s H vs Q E hr h => ?_)
  · obtain ⟨n, rfl, _⟩ := h
    rfl
  obtain ⟨n, rfl, q⟩ := h
  refine ⟨_, (pss_one (ps_ret (pe_and (pe_callB call_isi (by rfl) T.misinstance (by decide +kernel) (pa_cons (pv 0) (pa_cons (pe_bltn (v := .ty "int") (by rfl) T.mint (by decide +kernel) rfl) pa_nil))) (pe_one (pe_not (pe_callB call_isi (by rfl) T.misinstance (by decide +kernel) (pa_cons (pv 0) (pa_cons (pe_bltn (v := .ty "bool") (by rfl) T.mbool (by decide +kernel) rfl) pa_nil)))))))), ?_⟩
  have kI : ∀ (u : String) (b : Bool), kitB "int" u = some b → PySem.W.kitOne K (.type "int") (.type u) = some b := fun u b e => by
    unfold PySem.W.kitOne
    exact e
  refine ⟨_, rfl, .int n, .ty "int", .type "int", _, true, rfl, .ty _, .base (.int n), kI "int" true (by decide +kernel), _, rfl, iteT ?_⟩
  refine ⟨_, rfl, .int n, .ty "bool", .type "int", _, false, rfl, .ty _, .base (.int n), kI "bool" false (by decide +kernel), ?_⟩
  exact ⟨_, rfl, q⟩
end
end K18

set_option Elab.async false
set_option linter.all false
set_option maxRecDepth 100000
set_option maxHeartbeats 4000000
namespace K18
open PySem PySem.Spec PyProof.Rows L2 OG
open C8 (pss_cut pe_gc)
open OGX

section
variable {P : Program} {w : World} {K : PySem.W.Frag} {mg : Str → Option Value} {base : Heap}
def spClass (CM : Addr) : SpX := fun a cls d vs H Q _ => vs = [.ref a] ∧ cls = .ref CM ∧ ∃ dd, d = some dd ∧ H dd = some (.xd farXD) ∧ Q (.str "Far") H
theorem ok_class (T : Tops K mg) (X : Exx K mg) : FnX P w K mg base 1 T.fl_class T.dl_class ["_law_e"] (spClass X.CM) := by
  obtain ⟨oc, od, kV, doc, pm, an, cdv, ct, osl, e, lk, hcd⟩ := T.Fl_class.ex
  rw [e] at lk ⊢
  refine fn_ofX (N := Nl_class) lk hcd scl_class (fun a cls d vs H Q E h => ?_) (fun A outer s H vs Q E a oe cls d hz hf hr h => ?_)
  · obtain ⟨rfl, _⟩ := h
    rfl
  obtain ⟨rfl, rfl, dd, rfl, hdd, q⟩ := h
  have Y := X.xM
  have hp : (a, oe) ∈ (L2H.cxH C8.CX0 P w K mg base Nl_class "_law_class" (defScope sl_class) T.fl_class cdv A outer s H E (a, oe)).pn := List.mem_cons_self
  refine ⟨_, pss_cons (ps_if (PW.pt (pw_or (pt_cmpR op_eq (pe_callB (call_isX hp hz hf) (by rfl) T.misinstance (by decide +kernel) (pa_cons (pv 0) (pa_cons (pe_gc (v := .ref X.CMi) (by rfl) ⟨_, X.gMi, rfl⟩) pa_nil))) (pe_callB (call_isX hp hz hf) (by rfl) T.misinstance (by decide +kernel) (pa_cons (pv 0) (pa_cons (pe_gc (v := .ref X.CF) (by rfl) ⟨_, X.gF, rfl⟩) pa_nil))) (nomark _)) (pw_or1 (pt_not (pt_val (pe_callB (call_isX hp hz hf) (by rfl) T.misinstance (by decide +kernel) (pa_cons (pv 0) (pa_cons (pe_bltn (v := .ty "ValueError") (by rfl) X.mV (by decide +kernel) rfl) pa_nil))))))))
    (pss_one (ps_ret pe_str)) pss_nil) (pss_one (ps_ret (pe_xfX (n := "word") hp Y.x Y.w hz hf (pv 0)))), ?_⟩
  refine ⟨_, rfl, X.CM, dd, _, .ref X.CMi, _, false, rfl, rfl, rfl, Y.e, hdd, fun u h => h, Y.kM, ?_⟩
  refine ⟨_, rfl, X.CM, dd, _, .ref X.CF, _, true, rfl, rfl, rfl, Y.e, hdd, fun u h => h, Y.kF, ?_⟩
  refine ⟨rfl, _, rfl, ite2 (fun z => absurd z (by decide)) (fun _ => ?_)⟩
  refine ⟨_, rfl, X.CM, dd, _, .ty "ValueError", _, true, rfl, rfl, rfl, Y.e, hdd, fun u h => h, Y.kV, _, rfl, ite2 (fun z => absurd z (by decide)) (fun _ => ?_)⟩
  exact ⟨_, rfl, rfl, rfl, dd, _, _, rfl, hdd, rfl, q⟩
def eTried (CM : Addr) (Q : VK) : XK := fun cls d H' => cls = .ref CM ∧ ∃ dd, d = some dd ∧ H' dd = some (.xd farXD) ∧ ∀ p, H' p = none → Q (.ref p) (upd H' p (.tup [.str "Far", .non]))
def TTried (CM : Addr) : (XK → Hp → VK → Prop) → Hp → VK → Prop := fun tl H Q => tl (eTried CM Q) H (fun v H' => 2 ≤ sizeLine ∧ ∀ p, H' p = none → Q (.ref p) (upd H' p (.tup [.str "told", v])))
theorem exm_no {cls c : Value} (h : PySem.W.exmOne K cls c = some false) : PySem.W.exmAny K cls [c] = some false := by
  simp only [PySem.W.exmAny, h]
  rfl
theorem exm_yes {cls c : Value} (h : PySem.W.exmOne K cls c = some true) : PySem.W.exmAny K cls [c] = some true := by
  simp only [PySem.W.exmAny, h]
  rfl
theorem exm11_M (X : Exx K mg) : PySem.W.exmAny K (.ref X.CM) [.ref X.CNoName, .ref X.CTwice, .ref X.CNoPlan, .ref X.CNoLabel, .ref X.CTaken, .ref X.CRing, .ref X.CNotPlain, .ref X.CTangled, .ref X.CBreaks, .ref X.CInUse, .ref X.CUneven] = some false := by
  simp only [PySem.W.exmAny, X.xMNoName, X.xMTwice, X.xMNoPlan, X.xMNoLabel, X.xMTaken, X.xMRing, X.xMNotPlain, X.xMTangled, X.xMBreaks, X.xMInUse, X.xMUneven]
  rfl
theorem tried_gives {Y : Cx} {k : Nat} {cdg : Value} {q : Str} (T : Tops Y.K Y.mg) (X : Exx Y.K Y.mg) (GC : FnX Y.prog Y.w Y.K Y.mg Y.base 1 T.fl_class T.dl_class ["_law_e"] (spClass X.CM)) (hr : Room (k + 3) Y.A) :
    LamX.GivesTo Y Nl_tried "_law_tried" (defScope sl_tried) T.fl_tried cdg (defBody sl_tried) "_law_ask" q (TTried X.CM) := by
  intro f c' s H Q tl act hc h
  have hR : L2H.RoomH 1 (cxOf C8.CX0 Y.prog Y.w Y.K Y.mg Y.base Nl_tried "_law_tried" (defScope sl_tried) T.fl_tried cdg Y.A Y.stack s H C8.E0).nox.A := (L2H.roomH_of ((hr.deeper _).mono (by omega)))
  refine ⟨_, pss_one (ps_try_X (X := (cxOf C8.CX0 Y.prog Y.w Y.K Y.mg Y.base Nl_tried "_law_tried" (defScope sl_tried) T.fl_tried cdg Y.A Y.stack s H C8.E0).nox)
      (tb := fun W D σ H => ∃ Ech : XK, (∀ cls d σ' H', Ech cls d H' → W cls d σ' H') ∧ σ[0]? = some (some (.ref f)) ∧ H c' = some (LamX.CodeO c' q) ∧ tl Ech H (fun v H' => 2 ≤ sizeLine ∧ ∀ p, H' p = none → D.rt (.ref p) (upd H' p (.tup [.str "told", v]))))
      rfl rfl scl_tried.nd (fun W pn xe tk _ => ?_)
      (.cons (i := 1) (ts := fun _ _ _ _ _ _ => False) rfl rfl (.one ⟨by rfl, by decide, .inl X.gBadText⟩) (fun a oe cls d pn hz hf => ⟨fun _ _ _ _ _ _ z => z.elim⟩)
      (.cons (i := 1) (ts := fun _ _ _ _ _ _ => False) rfl rfl (.one ⟨by rfl, by decide, .inl X.gBadPage⟩) (fun a oe cls d pn hz hf => ⟨fun _ _ _ _ _ _ z => z.elim⟩)
      (.cons (i := 1) (ts := fun _ _ _ _ _ _ => False) rfl rfl (.one ⟨by rfl, by decide, .inl X.gStopped⟩) (fun a oe cls d pn hz hf => ⟨fun _ _ _ _ _ _ z => z.elim⟩)
      (.cons (i := 1) (ts := fun _ _ _ _ _ _ => False) rfl rfl (.tup (.cons ⟨by rfl, by decide, .inl X.gNoName⟩ (.cons ⟨by rfl, by decide, .inl X.gTwice⟩ (.cons ⟨by rfl, by decide, .inl X.gNoPlan⟩ (.cons ⟨by rfl, by decide, .inl X.gNoLabel⟩ (.cons ⟨by rfl, by decide, .inl X.gTaken⟩ (.cons ⟨by rfl, by decide, .inl X.gRing⟩ (.cons ⟨by rfl, by decide, .inl X.gNotPlain⟩ (.cons ⟨by rfl, by decide, .inl X.gTangled⟩ (.cons ⟨by rfl, by decide, .inl X.gBreaks⟩ (.cons ⟨by rfl, by decide, .inl X.gInUse⟩ (.cons ⟨by rfl, by decide, .inl X.gUneven⟩ .nil))))))))))) (by show 11 ≤ sizeLine; decide))
        (fun a oe cls d pn hz hf => ⟨fun _ _ _ _ _ _ z => z.elim⟩)
      (.cons (i := 1) rfl rfl (.one ⟨by rfl, by decide, .inl X.gR⟩)
        (fun a oe cls d pn hz hf => pss_one (ps_ret (pe_tup (pa_cons (pe_callX GC hR hz hf (by rfl) T.gl_class T.Fl_class.kp T.bl_class (pa_cons (pv 1) pa_nil)) (pa_cons pe_non pa_nil)))))
      .nil)))))), ?_⟩
  · refine ⟨fun pins s' σ H' D I h' => ?_⟩
    obtain ⟨Ech, hW, h1, h2, h3⟩ := h'
    exact PSs.run (X := ((cxOf C8.CX0 Y.prog Y.w Y.K Y.mg Y.base Nl_tried "_law_tried" (defScope sl_tried) T.fl_tried cdg Y.A Y.stack s H C8.E0).nox.tr pn xe)) (pss_one (ps_ret (pe_tup (pa_cons pe_str (pa_cons (act W pn xe Ech _ _ tk hW) pa_nil))))) pins s' σ H' D I ⟨h1, h2, h3⟩
  · refine ⟨eTried X.CM Q, fun cls d σ' H' hE => ?_, rfl, hc, ?_⟩
    · obtain ⟨rfl, dd, rfl, hdd, qd⟩ := hE
      refine ⟨false, exm_no X.xMBadText, (fun z => by cases z), fun _ => ⟨false, exm_no X.xMBadPage, (fun z => by cases z), fun _ => ⟨false, exm_no X.xMStopped, (fun z => by cases z), fun _ => ⟨false, exm11_M X, (fun z => by cases z), fun _ => ⟨true, exm_yes X.yMR, fun _ hlen a na => ?_, (fun z => by cases z)⟩⟩⟩⟩⟩
      match σ', hlen with
      | [x0, x1], _ =>
        exact ⟨_, rfl, ⟨rfl, rfl, dd, rfl, hdd, (by show 2 ≤ sizeLine; decide), fun p np => qd p np⟩⟩
    · exact h
end
end K18

set_option Elab.async false
set_option linter.all false
set_option maxRecDepth 100000
set_option maxHeartbeats 4000000
namespace K18
open PySem PySem.Spec PyProof.Rows L2 OG
open C8 (pss_cut pe_gc)
open OGX

section
variable {P : Program} {w : World} {K : PySem.W.Frag} {mg : Str → Option Value} {base : Heap}
def lamQ : Str := (envOfC "law" (defScope slaw) 0 0 .none).qual ++ "<lambda>"
def spLawT (K : PySem.W.Frag) (PL : Addr) : Sp := fun vs H Q _ => ∃ (a : Addr) (ns : List Int), vs = [.ref a] ∧ SqL K H a (ns.map V.int) ∧ ns.length ≤ 63 ∧ H PL = some (.tbl #[]) ∧ ∀ H', Q (.bl true) H'
def Kp (d : Addr) (H H' : Hp) : Prop := ∀ b o, b ≠ d → H b = some o → H' b = some o
theorem Kp.trans {d : Addr} {H H1 H2 : Hp} (a : Kp d H H1) (b : Kp d H1 H2) : Kp d H H2 := fun x o n h => b x o n (a x o n h)
theorem Kp.same {d : Addr} {H H' : Hp} (a : Same H H') : Kp d H H' := fun x o _ h => a x o h
theorem Kp.but {d : Addr} {H H' : Hp} (a : But d H H') : Kp d H H' := fun x o n h => (a x n).trans h
theorem Kp.go {d : Addr} {H H' : Hp} (a : Go (· = d) H H') : Kp d H H' := fun x o n h => a.at h n
theorem tabs_kp {T : List (Addr × Str)} {d L : Addr} {H H' : Hp} (hD : Dr H d L) (t : LamX.Tabs T H) (k : Kp d H H') : LamX.Tabs T H' := fun p hp => by
  obtain ⟨ps, h1, h2, h3⟩ := t p hp
  obtain ⟨ns, i, r, s, hd, _⟩ := hD
  refine ⟨ps, k _ _ (fun z => by rw [z, hd] at h1; cases h1) h1, h2, fun pos cv hc => ?_⟩
  obtain ⟨c, e1, e2⟩ := h3 pos cv hc
  exact ⟨c, e1, k _ _ (fun z => by rw [z, hd] at e2; unfold LamX.CodeO at e2; cases e2) e2⟩
theorem sums_ext {H H1 : Hp} (e : LamX.ExtN H H1) {S : Addr} {rs : List OG.Row} {ls : List Addr} (h : SumsAt H S rs ls) : SumsAt H1 S rs ls := by
  have im : Imm H H1 := fun b xs hb => e b _ hb (fun ps z => by cases z)
  obtain ⟨us, h1, h2⟩ := h
  refine ⟨us, e _ _ h1 (fun ps z => by cases z), ?_⟩
  clear h1
  induction h2 with
  | nil => exact .nil
  | cons h t ih =>
    obtain ⟨a, rfl, ha, vs, hl, hr⟩ := h
    exact .cons ⟨a, rfl, im _ _ ha, vs, e _ _ hl (fun ps z => by cases z), hr.to im⟩ ih
theorem dr_ext {H H1 : Hp} (e : LamX.ExtN H H1) {d L : Addr} (h : Dr H d L) : Dr H1 d L := by
  obtain ⟨ns, i, r, s, hd, hL, q⟩ := h
  exact ⟨ns, i, r, s, e _ _ hd (fun ps z => by cases z), e _ _ hL (fun ps z => by cases z), q⟩
theorem imm_ext {H H1 : Hp} (e : LamX.ExtN H H1) : Imm H H1 := fun b xs hb => e b _ hb (fun ps z => by cases z)
structure Bun (H : Hp) (d S : Addr) (rs : List OG.Row) (ls : List Addr) (A : Nat) : Prop where
  sums : SumsAt H S rs ls
  ok : RowsF A 7 rs
  ne : rs ≠ []
  nS : S ≠ d
  nl : ∀ l ∈ ls, l ≠ d
theorem Bun.go {H H' : Hp} {d S : Addr} {rs : List OG.Row} {ls : List Addr} {A : Nat} (h : Bun H d S rs ls A) (g : Go (· = d) H H') : Bun H' d S rs ls A := ⟨h.sums.go g h.nS h.nl, h.ok, h.ne, h.nS, h.nl⟩
theorem Bun.same {H H' : Hp} {d S : Addr} {rs : List OG.Row} {ls : List Addr} {A : Nat} (h : Bun H d S rs ls A) (g : Same H H') : Bun H' d S rs ls A := h.go (Go.same g)
theorem Bun.ext {H H' : Hp} {d S : Addr} {rs : List OG.Row} {ls : List Addr} {A : Nat} (h : Bun H d S rs ls A) (e : LamX.ExtN H H') : Bun H' d S rs ls A := ⟨sums_ext e h.sums, h.ok, h.ne, h.nS, h.nl⟩
theorem bun_drawn {wide : Int} {rs : List OG.Row} (h : RowsOk 3 3 wide rs) (hw : wide < 2 ^ 100) : RowsF (2 * wide.toNat) 7 rs := by
  have k := rowsF_of h (by decide) (by decide) hw
  exact ⟨k.ok, k.kt, fun r hr => by
    have := k.small r hr
    have e6 : (2 : Int) ^ 6 = 64 := by decide
    have e7 : (2 : Int) ^ 7 = 128 := by decide
    omega⟩
theorem bun_great {wide : Int} {rs : List OG.Row} (h : GreatOk wide rs) (hw : wide < 2 ^ 100) : RowsF (2 * wide.toNat) 7 rs := by
  refine ⟨⟨h.first, h.rises, by rw [h.n8]; exact Nat.le_refl _, fun r hr => ?_⟩, fun r hr => ?_, fun r hr => ?_⟩
  · obtain ⟨a, b, c⟩ := h.terms r hr
    refine ⟨b, fun t ht => ?_⟩
    have k := a t ht
    have o1 := k.o1
    exact ⟨k.p0, k.p1, k.f0, k.f1, by omega, k.u0, k.u1⟩
  · obtain ⟨a, b, c⟩ := h.terms r hr
    exact ktf_of a (by decide) (by decide) b c
  · have := h.since r hr
    have e7 : (2 : Int) ^ 7 = 128 := by decide
    omega
theorem ok_lawT (T : Tops K mg) (X : Exx K mg) {cL PL : Addr} (hcode : T.dlaw.code = .ref cL) (TB : LamX.TabB base mg cL PL) : FnOk P w K mg base C8.CX0 50 T.flaw T.dlaw ["_law_script"] (spLawT K PL) := by
  have Gl_begin : FnOk P w K mg base CX0 1 T.fl_begin T.dl_begin ["_law_script"] (spBegin K) := ok_begin T
  have Gl_take : FnOk P w K mg base CX0 1 T.fl_take T.dl_take ["_law_draw", "_law_sides"] spTakeW := ok_takeW T
  have Gl_drawn_sums : FnOk P w K mg base CX0 4 T.fl_drawn_sums T.dl_drawn_sums ["_law_draw", "_law_top", "_law_deep", "_law_wide"] spSums := ok_l_drawn_sums T
  have Gl_great_sums : FnOk P w K mg base CX0 3 T.fl_great_sums T.dl_great_sums ["_law_draw", "_law_wide"] spGreat := ok_l_great T
  have Gl_left_over : FnOk P w K mg base CX0 4 T.fl_left_over T.dl_left_over ["_law_one", "_law_other"] spLeftOver := ok_l_left_over T
  have Gl_signum : FnOk P w K mg base CX0 1 T.fl_signum T.dl_signum ["_law_number"] spSg := ok_l_signum T
  have Gl_int : FnOk P w K mg base CX0 1 T.fl_int T.dl_int ["_law_thing"] spInt := ok_l_int T
  have Gl_sign_at : FnOk P w K mg base CX0 4 T.fl_sign_at T.dl_sign_at ["_law_one", "_law_other", "_law_size"] spSignAtX := ok_l_sign_at T
  have Gcompared : FnOk P w K mg base (L2.CX P w) 10 T.fcompared T.dcompared ["one", "other"] (spComparedF X.CM) := ok_compared T X
  have GC : FnX P w K mg base 1 T.fl_class T.dl_class ["_law_e"] (spClass X.CM) := ok_class T X
  obtain ⟨ocT, odT, kVT, docT, pmT, anT, cdT, ctT, oslT, eT, lkT, hcdT⟩ := T.Fl_tried.ex
  have hbT := T.bl_tried
  rw [eT] at lkT hbT
  obtain ⟨oc, od, kV, doc, pm, an, cdv, ct, osl, e, lk, hcd⟩ := T.Flaw.ex
  rw [e] at lk hcode ⊢
  have ec : cdv = .ref cL := hcode
  subst ec
  refine fn_of (k := 49) lk hcd sclaw (fun vs H Q E h => ?_) (fun A outer s H vs Q E hr h => ?_)
  · obtain ⟨a, ns, rfl, _⟩ := h
    rfl
  obtain ⟨a, ns, rfl, hS, hlen, hPL, q⟩ := h
  suffices hh : ∃ t, PSs (cxOf C8.CX0 P w K mg base Nlaw "law" (defScope slaw) T.flaw (.ref cL) A outer s H E).nox (defBody slaw) t ∧ t { nx := fun _ H' => Q .non H', rt := Q } (L2.start Nlaw [.ref a]) H by
    obtain ⟨t, ht, hq⟩ := hh
    exact ⟨t, ht.nox, hq⟩
  refine ⟨_, (pss_cons (ps_set (i := 1) sclaw.nd rfl (Or.inl rfl) (pe_call Gl_begin (hr.mono (by omega)) (by rfl) T.gl_begin T.Fl_begin.kp T.bl_begin .nil pass0 (pa_cons (pv 0) pa_nil)))
 (pss_cons (ps_set (i := 2) sclaw.nd rfl (Or.inl rfl) (pe_disp (pps_cons pe_int pe_str (pps_cons pe_int pe_str (pps_cons (pe_un un_neg pe_int) pe_str pps_nil))) (by rfl) (by rfl) (fun z => by cases z) (by decide)))
 (pss_cons (ps_for PassesOwn.never rfl (pi_range1 (by rfl) T.mrange (pa_cons pe_int pa_nil)) (pg_name (i := 3) sclaw.nd rfl (Or.inl rfl))
  (pss_cons (ps_set (i := 4) sclaw.nd rfl (Or.inl rfl) (pe_ix ix_list (pe_lst (pa_cons pe_int (pa_cons pe_int (pa_cons (pe_op op_pow pe_int pe_int) pa_nil)))) (pe_call Gl_take (hr.mono (by omega)) (by rfl) T.gl_take T.Fl_take.kp T.bl_take .nil pass0 (pa_cons (pv 1) (pa_cons pe_int pa_nil))) (fun _ _ => rfl)))
 (pss_cons (ps_set (i := 5) sclaw.nd rfl (Or.inr rfl) (pe_call Gl_drawn_sums (hr.mono (by omega)) (by rfl) T.gl_drawn_sums T.Fl_drawn_sums.kp T.bl_drawn_sums .nil pass0 (pa_cons (pv 1) (pa_cons pe_int (pa_cons pe_int (pa_cons (pv 4) pa_nil))))))
 (pss_cons (ps_set (i := 6) sclaw.nd rfl (Or.inr rfl) (pe_call Gl_drawn_sums (hr.mono (by omega)) (by rfl) T.gl_drawn_sums T.Fl_drawn_sums.kp T.bl_drawn_sums .nil pass0 (pa_cons (pv 1) (pa_cons pe_int (pa_cons pe_int (pa_cons (pv 4) pa_nil))))))
 (pss_cut (ps_if (pt_cmpR op_eq (pe_call Gl_take (hr.mono (by omega)) (by rfl) T.gl_take T.Fl_take.kp T.bl_take .nil pass0 (pa_cons (pv 1) (pa_cons pe_int pa_nil))) pe_int (nomark _))
  (pss_one (ps_asg (pe_tup (pa_cons (pe_call Gl_great_sums (hr.mono (by omega)) (by rfl) T.gl_great_sums T.Fl_great_sums.kp T.bl_great_sums .nil pass0 (pa_cons (pv 1) (pa_cons (pv 4) pa_nil))) (pa_cons (pe_call Gl_great_sums (hr.mono (by omega)) (by rfl) T.gl_great_sums T.Fl_great_sums.kp T.bl_great_sums .nil pass0 (pa_cons (pv 1) (pa_cons (pv 4) pa_nil))) pa_nil))) (pg_tup rfl (pgs_cons (pg_name (i := 5) sclaw.nd rfl (Or.inr rfl)) (pgs_cons (pg_name (i := 6) sclaw.nd rfl (Or.inr rfl)) pgs_nil)))))
  pss_nil)
 (pss_cons (ps_asg (LamX.pe_lamcall (k := 20) (T := [(PL, lamQ)]) (TT := TTried X.CM) (by rfl) T.gl_tried T.Fl_tried.kp lkT hcdT hbT scl_tried rfl (Or.inl rfl) (tried_gives (Y := (cxOf C8.CX0 P w K mg base Nlaw "law" (defScope slaw) T.flaw (.ref cL) A outer s H E).nox) (k := 20) T X GC (hr.mono (by omega))) TB rfl List.mem_cons_self (fun p hp _ => by rw [List.mem_singleton.mp hp]; rfl) (hr.mono (by omega)) (LamX.lamS_by (sc := defScope slaw) (by rfl)) rfl (fun _ _ _ _ _ => rfl) (fun A1 o1 s1 H1 E1 f1 c1 hr1 => pe_call Gcompared (hr1.mono (by omega)) (by rfl) T.gcompared T.Fcompared.kp T.bcompared .nil (passes_call (takes_of rfl rfl rfl rfl) (fun _ _ _ _ h => h)) (pa_cons (pv 5) (pa_cons (pv 6) pa_nil)))) (pg_tup rfl (pgs_cons (pg_name (i := 12) sclaw.nd rfl (Or.inl rfl)) (pgs_cons (pg_name (i := 13) sclaw.nd rfl (Or.inl rfl)) pgs_nil))))
 (pss_cons (ps_if (PW.pt (pw_and (pt_cmpR op_eq (pv 12) pe_str (nomark _)) (pw_and1 (pt_cmpR op_gt (pv 4) pe_int (nomark _)))))
  (pss_one ps_continue)
  pss_nil)
 (pss_cons (ps_set (i := 7) sclaw.nd rfl (Or.inl rfl) (pe_call Gl_left_over (hr.mono (by omega)) (by rfl) T.gl_left_over T.Fl_left_over.kp T.bl_left_over .nil pass0 (pa_cons (pe_ix ix_tup (pe_ix ix_list (pv 5) (pe_un un_neg pe_int) (fun _ _ => rfl)) pe_int (fun _ _ => rfl)) (pa_cons (pe_ix ix_tup (pe_ix ix_list (pv 6) (pe_un un_neg pe_int) (fun _ _ => rfl)) pe_int (fun _ _ => rfl)) pa_nil))))
 (pss_cut (ps_set (i := 8) sclaw.nd rfl (Or.inr rfl) (pe_ifExp (pt_cmpR (op_neD0 hr.units) (pv 7) pe_dnewT (nomark _)) (pe_call Gl_signum (hr.mono (by omega)) (by rfl) T.gl_signum T.Fl_signum.kp T.bl_signum .nil pass0 (pa_cons (pe_dget (hu_of hr) (pv 7) (pe_callB (cr_maxDT rfl hr.units) (by rfl) T.mmax (by decide +kernel) (pa_cons (pv 7) pa_nil)) (fun _ _ => rfl)) pa_nil)) pe_int))
 (pss_cons (ps_if (PW.pt (pw_or (pt_cmpR op_ne (pv 12) pe_str (nomark _)) (pw_or (pt_cmpR op_ne (pe_ix ix_tup (pv 13) pe_int (fun _ _ => rfl)) (pe_dget (hu_of hr) (pv 2) (pv 8) (fun _ _ => rfl)) (nomark _)) (pw_or (pt_not (pt_val (pe_call Gl_int (hr.mono (by omega)) (by rfl) T.gl_int T.Fl_int.kp T.bl_int .nil pass0 (pa_cons (pe_ix ix_tup (pv 13) pe_int (fun _ _ => rfl)) pa_nil)))) (pw_or1 (pt_cmpR op_lt (pe_ix ix_tup (pv 13) pe_int (fun _ _ => rfl)) pe_int (nomark _)))))))
  (pss_one (ps_ret pe_bl))
  pss_nil)
 (pss_cons (ps_set (i := 9) sclaw.nd rfl (Or.inr rfl) (pe_ix ix_tup (pv 13) pe_int (fun _ _ => rfl)))
 (pss_cut (ps_if (PW.pt (pw_and (pt_cmpR op_gt (pv 9) pe_int (nomark _)) (pw_and1 (pt_cmpR op_eq (pe_call Gl_sign_at (hr.mono (by omega)) (by rfl) T.gl_sign_at T.Fl_sign_at.kp T.bl_sign_at .nil pass0 (pa_cons (pv 5) (pa_cons (pv 6) (pa_cons (pe_op op_sub (pv 9) pe_int) pa_nil)))) (pv 8) (nomark _)))))
  (pss_one (ps_ret pe_bl))
  pss_nil)
 (pss_cons (ps_set (i := 10) sclaw.nd rfl (Or.inl rfl) (pe_lst (pa_cons (pv 9) (pa_cons (pe_op op_add (pv 9) pe_int) (pa_cons (pe_op op_add (pv 9) pe_int) (pa_cons (pe_op op_add (pe_op op_mul (pv 9) pe_int) pe_int) (pa_cons (pe_op op_add (pv 9) (pe_call Gl_take (hr.mono (by omega)) (by rfl) T.gl_take T.Fl_take.kp T.bl_take .nil pass0 (pa_cons (pv 1) (pa_cons pe_int pa_nil)))) (pa_cons (pe_op op_add (pv 9) (pe_call Gl_take (hr.mono (by omega)) (by rfl) T.gl_take T.Fl_take.kp T.bl_take .nil pass0 (pa_cons (pv 1) (pa_cons (pe_op op_pow pe_int pe_int) pa_nil)))) pa_nil))))))))
 (pss_cons (ps_for PassesOwn.never rfl (pi_range2 (by rfl) T.mrange (pa_cons (pe_bits (pv 9)) (pa_cons (pe_op op_add (pe_bits (pv 9)) pe_int) pa_nil))) (pg_name (i := 11) sclaw.nd rfl (Or.inl rfl))
  (pss_one (ps_set (i := 10) sclaw.nd rfl (Or.inl rfl) (pe_op op_cat (pv 10) (pe_lst (pa_cons (pe_op op_sub (pe_op op_oneShl pe_int (pv 11)) pe_int) (pa_cons (pe_op op_oneShl pe_int (pv 11)) pa_nil)))))))
 (pss_one (ps_if (pt_not (pt_val (pe_callB (cr_all rfl) (by rfl) T.mall (by decide +kernel) (pa_cons (pe_lc (own := [("_law_at", 14)]) rfl sclaw.nd (pi_list (pv 10)) (blkOk_by (N := Nlaw) (sc := defScope slaw) (by decide +kernel)) (fun _ _ _ _ _ => (pg_name (i := 14) sclaw.nd rfl (Or.inl rfl))) (fun _ _ _ _ _ => (pts_one (pt_cmpR op_ge (pv 14) (pv 9) (nomark _)))) (fun _ _ _ _ _ => (pe_cmpR op_eq (pe_call Gl_sign_at (hr.mono (by omega)) (by rfl) T.gl_sign_at T.Fl_sign_at.kp T.bl_sign_at .nil pass0 (pa_cons (pv 5) (pa_cons (pv 6) (pa_cons (pv 14) pa_nil)))) (pv 8) (nomark _)))) pa_nil))))
  (pss_one (ps_ret pe_bl))
  pss_nil))))))))))))))))
 (pss_one (ps_ret pe_bl))))), ?_⟩
  refine ⟨_, rfl, a, ns, rfl, hS, fun d L H1 sm nd nL hD => ?_⟩
  have hT1 : LamX.Tabs [(PL, lamQ)] H1 := fun p hp => by
    rw [List.mem_singleton.mp hp]
    exact LamX.TabS.nil (sm _ _ hPL)
  refine fun W nW => ⟨1, rfl, upd_same, [(.inl 1, .str "more"), (.inl 0, .str "alike"), (.inl (-1), .str "less")], rfl, by decide, ?_⟩
  rw [upd_upd]
  have hD0 : Dr (upd H1 W (.dK (mergeK [] [(.inl 1, .str "more"), (.inl 0, .str "alike"), (.inl (-1), .str "less")]))) d L := hD.new nW
  have hT0 : LamX.Tabs [(PL, lamQ)] (upd H1 W (.dK (mergeK [] [(.inl 1, .str "more"), (.inl 0, .str "alike"), (.inl (-1), .str "less")]))) := hT1.ext fun b o e => same_new nW b o e
  have hW0 : (upd H1 W (.dK (mergeK [] [(.inl 1, .str "more"), (.inl 0, .str "alike"), (.inl (-1), .str "less")]))) W = some (.dK (mergeK [] [(.inl 1, .str "more"), (.inl 0, .str "alike"), (.inl (-1), .str "less")])) := upd_same
  generalize upd H1 W (.dK (mergeK [] [(.inl 1, .str "more"), (.inl 0, .str "alike"), (.inl (-1), .str "less")])) = H0 at *
  generalize hWD : mergeK [] [((.inl 1 : L2.Key), V.str "more"), (.inl 0, .str "alike"), (.inl (-1), .str "less")] = WD at *
  have hwd : ∀ x : Int, x = -1 ∨ x = 0 ∨ x = 1 → valV WD (.inl x) = some (.str (wordOf x)) := fun x h => by
    rw [← hWD]
    rcases h with rfl | rfl | rfl <;> decide +kernel
  have nWd : W ≠ d := (hD.neNew nW).1
  refine ⟨3, rfl, by decide, by decide, ?_⟩
  refine for_range (n := 3) (fun i σ H' => (∃ x3 x4 x5 x6 x7 x8 x9 x10 x11 x12 x13, σ = [some (.ref a), some (.ref d), some (.ref W), x3, x4, x5, x6, x7, x8, x9, x10, x11, x12, x13, none]) ∧ Dr H' d L ∧ LamX.Tabs [(PL, lamQ)] H' ∧ H' W = some (.dK WD)) ⟨⟨_, _, _, _, _, _, _, _, _, _, _, rfl⟩, hD0, hT0, hW0⟩ (fun i σ H2 hi hP => ?_) (fun σ H2 hP => ?_)
  · obtain ⟨⟨x3, x4, x5, x6, x7, x8, x9, x10, x11, x12, x13, rfl⟩, hD2, hT2, hW2⟩ := hP
    refine ⟨10, 12, rfl, rfl, ⟨by decide, by decide, by decide⟩, (by show 3 ≤ sizeLine; decide), fun l1 nl1 => ?_⟩
    refine ⟨_, rfl, d, L, 3, rfl, hD2.new nl1, by decide, by decide, fun g1 H3 a3 b3 hD3 hB3 => ?_⟩
    have hl1 : H3 l1 = some (.lst [.int 20, .int 20, .int (10 ^ (12 : Int).toNat)]) := by
      rw [hB3 l1 (hD2.neNew nl1).1]
      exact upd_same
    obtain ⟨v3, hv3, hm3⟩ := atI_lt (xs := [V.int 20, .int 20, .int (10 ^ (12 : Int).toNat)]) a3 b3
    obtain ⟨m3, rfl, m30⟩ : ∃ m3 : Int, v3 = .int m3 ∧ (m3 = 20 ∨ m3 = 10 ^ 12) := by
      simp at hm3
      rcases hm3 with rfl | rfl
      · exact ⟨_, rfl, .inl rfl⟩
      · exact ⟨_, rfl, .inr rfl⟩
    have e12 : (10 : Int) ^ 12 = 1000000000000 := by decide
    have w1 : 1 ≤ m3 := by omega
    have w2 : m3 < 2 ^ 100 := by omega
    refine ⟨l1, _, g1, _, rfl, rfl, SqL.of hl1, hv3, ?_⟩
    have G3 : Go (· = d) H2 H3 := (Go.same (same_new nl1)).trans (Go.but (hD2.new nl1) hB3 rfl)
    have hT3 := tabs_kp hD2 hT2 (Kp.go G3)
    have hW3 := G3.at hW2 nWd
    refine ⟨_, rfl, _, rfl, d, L, 3, 3, m3, rfl, hD3, by decide, by decide, by decide, by decide, w1, w2, fun S1 rs1 ls1 H4 nS1 nS1d hls1 hSm1 hok1 hD4 G4 => ?_⟩
    refine ⟨_, rfl, _, rfl, d, L, 3, 3, m3, rfl, hD4, by decide, by decide, by decide, by decide, w1, w2, fun S2 rs2 ls2 H5 nS2 nS2d hls2 hSm2 hok2 hD5 G5 => ?_⟩
    have B1 : Bun H5 d S1 rs1 ls1 (2 * m3.toNat) := (⟨hSm1, bun_drawn hok1 w2, hok1.n0, nS1d, fun l hl => (hls1 l hl).2.1⟩ : Bun H4 d S1 rs1 ls1 (2 * m3.toNat)).go G5
    have B2 : Bun H5 d S2 rs2 ls2 (2 * m3.toNat) := ⟨hSm2, bun_drawn hok2 w2, hok2.n0, nS2d, fun l hl => (hls2 l hl).2.1⟩
    have hT5 := tabs_kp hD3 hT3 (Kp.go (G4.trans G5))
    have hW5 := (G4.trans G5).at hW3 nWd
    refine ⟨fun σ' H' => ∃ S1 rs1 ls1 S2 rs2 ls2 x3, σ' = [some (.ref a), some (.ref d), some (.ref W), x3, some (.int m3), some (.ref S1), some (.ref S2), x7, x8, x9, x10, x11, x12, x13, none] ∧ Bun H' d S1 rs1 ls1 (2 * m3.toNat) ∧ Bun H' d S2 rs2 ls2 (2 * m3.toNat) ∧ Dr H' d L ∧ LamX.Tabs [(PL, lamQ)] H' ∧ H' W = some (.dK WD), ?_, ?_⟩
    · refine ⟨_, rfl, d, L, 6, rfl, hD5, by decide, by decide, fun t1 H6 _ _ hD6 hB6 => ?_⟩
      have G56 : Go (· = d) H5 H6 := Go.but hD5 hB6 rfl
      have hT6 := tabs_kp hD5 hT5 (Kp.go G56)
      have hW6 := G56.at hW5 nWd
      refine ⟨rfl, _, rfl, ite2 (fun c => ?_) (fun c => ?_)⟩
      · refine ⟨_, rfl, _, rfl, d, L, m3, rfl, hD6, w1, w2, fun S3 rs3 ls3 H7 nS3 nS3d hls3 hSm3 hok3 hD7 G7 => ?_⟩
        refine ⟨_, rfl, _, rfl, d, L, m3, rfl, hD7, w1, w2, fun S4 rs4 ls4 H8 nS4 nS4d hls4 hSm4 hok4 hD8 G8 => ?_⟩
        have B3 : Bun H8 d S3 rs3 ls3 (2 * m3.toNat) := (⟨hSm3, bun_great hok3 w2, fun z => (by have := hok3.n8; rw [z] at this; cases this), nS3d, fun l hl => (hls3 l hl).2.1⟩ : Bun H7 d S3 rs3 ls3 (2 * m3.toNat)).go G8
        have B4 : Bun H8 d S4 rs4 ls4 (2 * m3.toNat) := ⟨hSm4, bun_great hok4 w2, fun z => (by have := hok4.n8; rw [z] at this; cases this), nS4d, fun l hl => (hls4 l hl).2.1⟩
        have hT8 := tabs_kp hD6 hT6 (Kp.go (G7.trans G8))
        have hW8 := (G7.trans G8).at hW6 nWd
        refine ⟨(by show 2 ≤ sizeLine; decide), fun tp ntp => ?_⟩
        have s9 := same_new (o := .tup [.ref S3, .ref S4]) ntp
        refine ⟨tp, _, rfl, SqT.of upd_same, rfl, _, _, rfl, _, _, rfl, rfl, ?_⟩
        exact ⟨S3, rs3, ls3, S4, rs4, ls4, _, rfl, B3.same s9, B4.same s9, hD8.same s9, hT8.ext fun b o e => s9 b o e, s9 _ _ hW8⟩
      · exact ⟨S1, rs1, ls1, S2, rs2, ls2, _, rfl, B1.go G56, B2.go G56, hD6, hT6, hW6⟩
    clear B1 B2 hT5 hW5 hD5 hSm1 hSm2 hok1 hok2
    rintro σ' H6 ⟨S1, rs1, ls1, S2, rs2, ls2, y3, rfl, B1, B2, hD6, hT6, hW6⟩
    have hA61 : 18 * (2 * m3.toNat) < 2 ^ 61 := by
      have e61 : (2 : Nat) ^ 61 = 2305843009213693952 := by decide
      omega
    have hA122 : 18 * (2 * m3.toNat) < 2 ^ 122 := Nat.lt_trans hA61 (Nat.pow_lt_pow_right (by decide) (by decide))
    have nWc : ∀ ps, (HO.dK WD : HO) ≠ .tbl ps := fun ps z => by cases z
    refine ⟨hT6, fun H12 eN T12 => ?_⟩
    have C1 := B1.ext eN
    have C2 := B2.ext eN
    have hD12 := dr_ext eN hD6
    have hW12 : H12 W = some (.dK WD) := eN _ _ hW6 nWc
    refine ⟨_, rfl, _, rfl, S1, rs1, ls1, S2, rs2, ls2, 2 * m3.toNat, 7, rfl, C1.sums, C2.sums, C1.ok, C2.ok, hA122, by decide, tame_of C1.ok C2.ok hA61 (by decide), fun t sg size H13 s13 ht hset hbig => ⟨by decide, fun p np => ?_⟩, fun sg he n n0 hn hf dd H13 s13 nd hdd => ⟨rfl, dd, rfl, hdd, fun p np => ?_⟩⟩
    · have s14 := same_new (o := .tup [.str "told", .ref t]) np
      have ht14 := s14 _ _ ht
      have sA := s13.trans s14
      refine ⟨p, _, rfl, SqT.of upd_same, rfl, _, _, rfl, _, _, rfl, rfl, ?_⟩
      have hD14 := hD12.same sA
      have T14 := T12.ext fun b o e => sA b o e
      have hW14 := sA _ _ hW12
      have C1' := C1.same sA
      have C2' := C2.same sA
      generalize upd H13 p (.tup [.str "told", .ref t]) = H14 at *
      refine ⟨_, rfl, rfl, _, rfl, ite2 (fun z => absurd z (by decide +kernel)) (fun _ => iteF ?_)⟩
      obtain ⟨us1, hl1, hR1⟩ := id C1'.sums
      obtain ⟨us2, hl2, hR2⟩ := id C2'.sums
      have split : ∀ {us : List V} {rs : List OG.Row} {ls : List Addr}, RowsAt H14 us rs ls → rs ≠ [] → ∃ us0 u, us = us0 ++ [u] := fun {us rs ls} hR h0 => by
        rcases List.eq_nil_or_concat us with h | ⟨u0, u, h⟩
        · refine absurd (List.eq_nil_of_length_eq_zero ?_) h0
          rw [← hR.len.1, h]
          rfl
        · exact ⟨u0, u, by rw [h, List.concat_eq_append]⟩
      obtain ⟨ua1, u1, rfl⟩ := split hR1 C1'.ne
      obtain ⟨ua2, u2, rfl⟩ := split hR2 C2'.ne
      obtain ⟨ra1, r1, la1, m1, e1, f1, hA1, b1, rfl, hb1, hQ1⟩ := rows_split hR1
      obtain ⟨ra2, r2, la2, m2, e2, f2, hA2, b2, rfl, hb2, hQ2⟩ := rows_split hR2
      have hr1 : r1 ∈ rs1 := by rw [e1]; exact List.mem_append_right _ List.mem_cons_self
      have hr2 : r2 ∈ rs2 := by rw [e2]; exact List.mem_append_right _ List.mem_cons_self
      have e7 : (2 : Int) ^ 7 = 128 := by decide
      have e100 : (128 : Int) < 2 ^ 100 := by decide
      have row1 : rowTs rs1 (2 ^ 100) = r1.2 := rowTs_last C1'.ok.ok.rises e1 (by have := (C1'.ok.small r1 hr1).2; omega)
      have row2 : rowTs rs2 (2 ^ 100) = r2.2 := rowTs_last C2'.ok.ok.rises e2 (by have := (C2'.ok.small r2 hr2).2; omega)
      have kt1 := C1'.ok.kt r1 hr1
      have kt2 := C2'.ok.kt r2 hr2
      refine ⟨_, rfl, 1, rfl, S1, _, -1, _, rfl, rfl, SqL.of hl1, atI_last ua1 (.ref b1), b1, _, 1, _, rfl, rfl, SqT.of hb1, rfl, _, rfl, 1, rfl, S2, _, -1, _, rfl, rfl, SqL.of hl2, atI_last ua2 (.ref b2), b2, _, 1, _, rfl, rfl, SqT.of hb2, rfl, ?_⟩
      refine ⟨m1, m2, r1.2, r2.2, rfl, hQ1, hQ2, kt1.ok, kt2.ok, by have := kt1.few; omega, by have := kt2.few; omega, fun Gd mm H15 s15 nG hmm hdv hGd => ?_⟩
      obtain ⟨wz, wn⟩ := whole_end C1'.ok C2'.ok hA122 (by decide) row1 row2 hmm hdv
      have C1'' := C1'.same s15
      have C2'' := C2'.same s15
      have hD15 := hD14.same s15
      have T15 := T14.ext fun b o e => s15 b o e
      have hW15 := s15 _ _ hW14
      have ht15 := s15 _ _ ht14
      have hkeys : (wholeK mm (r2.2.foldl stepT r1.2)).map (·.1) = (((r2.2.foldl stepT r1.2).filter fun t => decide (t.2.1 ≠ 0)).map (·.1)).map pairK := by
        unfold wholeK
        rw [List.map_map, List.map_map]
        rfl
      refine ⟨fun σ' H' => σ' = [some (.ref a), some (.ref d), some (.ref W), y3, some (.int m3), some (.ref S1), some (.ref S2), some (.ref Gd), some (.int sg), x9, x10, x11, some (.str "told"), some (.ref t), none] ∧ Same H15 H', ?_, ?_⟩
      · refine ⟨_, rfl, fun E0 nE0 => ⟨Gd, E0, _, rfl, rfl, same_new nE0 _ _ hGd, upd_same, _, rfl, ite2 (fun c => ?_) (fun c => ?_)⟩⟩
        · have sE := same_new (o := .dT []) nE0
          refine ⟨_, rfl, _, rfl, Gd, _, _, rfl, sE _ _ hGd, hkeys, fun z => ?_, fun b pp hpp hmax hb => ?_⟩
          · have : wholeK mm (r2.2.foldl stepT r1.2) = [] := by
              have l := congrArg List.length hkeys
              rw [z] at l
              rw [List.length_map] at l
              exact List.eq_nil_of_length_eq_zero l
            rw [this] at c
            exact absurd c (by decide)
          · obtain ⟨x, hx, hend⟩ := wn pp _ hkeys hpp hmax
            have esg : sg = sgX x := hset.ends hend
            have gg := DGet.t (k := pairK pp) (sE _ _ hGd) hb
            rw [hx] at gg
            refine ⟨Gd, .int x, rfl, gg, x, rfl, ?_⟩
            rw [← esg]
            exact ⟨rfl, sE⟩
        · have hnil : wholeK mm (r2.2.foldl stepT r1.2) = [] := Classical.byContradiction fun z => c (by rw [decide_eq_false z]; rfl)
          have esg : sg = 0 := hset.ends (wz hnil)
          rw [esg]
          exact ⟨rfl, same_new nE0⟩
      rintro σ' H16 ⟨rfl, s16⟩
      have D1 := C1''.same s16
      have D2 := C2''.same s16
      have hD16 := hD15.same s16
      have T16 := T15.ext fun b o e => s16 b o e
      have hW16 := s16 _ _ hW15
      have ht16 := s16 _ _ ht15
      have hgw : DGet H16 W (.int sg) (some (.str (wordOf sg))) := by
        have gg := DGet.k (k := .inl sg) hW16
        rw [hwd sg hset.cases] at gg
        exact gg
      refine ⟨_, rfl, rfl, _, rfl, ite2 (fun z => absurd z (by decide +kernel)) (fun _ => ?_)⟩
      refine ⟨_, rfl, t, _, 0, _, rfl, rfl, SqT.of ht16, rfl, _, rfl, _, rfl, W, _, rfl, hgw, rfl, _, rfl, ite2 (fun z => absurd z ?_) (fun _ => ?_)⟩
      · rw [decide_eq_true rfl]
        exact Bool.false_ne_true
      refine ⟨_, rfl, t, _, 1, _, rfl, rfl, SqT.of ht16, rfl, size, rfl, _, rfl, iteF ?_⟩
      have s0 := hset.1
      refine ⟨_, rfl, t, _, 1, _, rfl, rfl, SqT.of ht16, rfl, _, _, rfl, rfl, _, rfl, ite2 (fun z => absurd (of_decide_eq_true z) (by omega)) (fun _ => ?_)⟩
      refine ⟨_, rfl, t, _, 1, _, rfl, rfl, SqT.of ht16, rfl, ?_⟩
      refine ⟨fun σ' H' => σ' = [some (.ref a), some (.ref d), some (.ref W), y3, some (.int m3), some (.ref S1), some (.ref S2), some (.ref Gd), some (.int sg), some (.int size), x10, x11, some (.str "told"), some (.ref t), none] ∧ Same H16 H', ?_, ?_⟩
      · refine ⟨_, rfl, _, _, rfl, rfl, _, rfl, ite2 (fun c => ?_) (fun _ => iteF ⟨rfl, Same.refl _⟩)⟩
        have c1 : 0 < size := of_decide_eq_true c
        refine ⟨_, rfl, _, rfl, _, rfl, _, _, rfl, rfl, S1, rs1, ls1, S2, rs2, ls2, size - 1, rfl, D1.sums, D2.sums, D1.ok.ok, D2.ok.ok, by omega, nat_room (by omega) (big_room hbig (by omega)), fun H17 s17 => ?_⟩
        refine ⟨_, rfl, rfl, _, rfl, ite2 (fun z => absurd z ?_) (fun _ => ⟨rfl, s17⟩)⟩
        have hne : ¬ V.int (sgX (dif2 rs1 rs2 (size - 1))) = V.int sg := fun z => hset.2.2 c1 (V.int.inj z)
        rw [decide_eq_false hne]
        exact Bool.false_ne_true
      rintro σ' H17 ⟨rfl, s17⟩
      have F1 := D1.same s17
      have F2 := D2.same s17
      have hD17 := hD16.same s17
      have T17 := T16.ext fun b o e => s17 b o e
      have hW17 := s17 _ _ hW16
      refine ⟨_, rfl, _, rfl, _, _, rfl, rfl, _, rfl, _, _, rfl, rfl, _, rfl, _, _, rfl, rfl, .inr ⟨by decide, by decide⟩, _, _, rfl, rfl, _, rfl, _, rfl, d, L, 40, rfl, hD17, by decide, by decide, fun ga H18 ga0 ga1 hD18 hB18 => ?_⟩
      have G18 : Go (· = d) H17 H18 := Go.but hD17 hB18 rfl
      refine ⟨_, _, rfl, rfl, _, rfl, _, rfl, 10, 20, rfl, rfl, ⟨by decide, by decide, by decide⟩, d, L, 10 ^ (20 : Int).toNat, rfl, hD18, by decide, by decide, fun gb H19 gb0 gb1 hD19 hB19 => ?_⟩
      have G19 : Go (· = d) H17 H19 := G18.trans (Go.but hD18 hB19 rfl)
      refine ⟨_, _, rfl, rfl, (by show 6 ≤ sizeLine; decide), fun lz nlz => ?_⟩
      have G20 := G19.trans (Go.same (same_new (o := .lst [.int size, .int (size + 1), .int (size + 2), .int (size * 2 + 1), .int (size + ga), .int (size + gb)]) nlz))
      have J1 := F1.go G20
      have J2 := F2.go G20
      have hD20 := hD19.new (o := .lst [.int size, .int (size + 1), .int (size + 2), .int (size * 2 + 1), .int (size + ga), .int (size + gb)]) nlz
      have T20 := tabs_kp hD17 T17 (Kp.go G20)
      have hW20 := G20.at hW17 nWd
      have hz20 : (upd H19 lz (.lst [.int size, .int (size + 1), .int (size + 2), .int (size * 2 + 1), .int (size + ga), .int (size + gb)])) lz = some (.lst ([size, size + 1, size + 2, size * 2 + 1, size + ga, size + gb].map V.int)) := upd_same
      have gb2 : gb < 100000000000000000000 := gb1
      have e80 : (2 : Int) ^ 80 = 1208925819614629174706176 := by decide
      have hzs : ∀ z ∈ [size, size + 1, size + 2, size * 2 + 1, size + ga, size + gb], 0 ≤ z ∧ z < 2 ^ 2199 := fun z hz => by
        have hz' : 0 ≤ z ∧ z ≤ 2 * size + 2 ^ 80 := by
          simp only [List.mem_cons, List.mem_nil_iff, or_false] at hz
          rw [e80]
          rcases hz with rfl | rfl | rfl | rfl | rfl | rfl <;> omega
        exact ⟨hz'.1, big_room hbig hz'.2⟩
      generalize upd H19 lz (.lst [.int size, .int (size + 1), .int (size + 2), .int (size * 2 + 1), .int (size + ga), .int (size + gb)]) = H20 at *
      have hfs : figs size ≤ 2001 := figs_le_of s0 (by
        have e : (2 : Int) ^ 2001 = 2 * 2 ^ 2000 := by rw [Int.pow_succ]; omega
        have p : (1 : Int) ≤ 2 ^ 2000 := Int.pow_pos (by decide)
        rw [e]
        omega)
      have hfs2 : Builtin.Int.intBits size ≤ 2001 := hfs
      refine ⟨_, rfl, size, rfl, _, rfl, size, rfl, _, _, rfl, rfl, _, _, rfl, ⟨by omega, by omega, by omega, by omega⟩, ?_⟩
      refine for_range (lo := ((figs size : Nat) : Int)) (fun k σ H' => (∃ x11 lz zs, σ = [some (.ref a), some (.ref d), some (.ref W), y3, some (.int m3), some (.ref S1), some (.ref S2), some (.ref Gd), some (.int sg), some (.int size), some (.ref lz), x11, some (.str "told"), some (.ref t), none] ∧ H' lz = some (.lst (zs.map V.int)) ∧ zs.length = 6 + 2 * k ∧ ∀ z ∈ zs, 0 ≤ z ∧ z < 2 ^ 2199) ∧ Same H20 H') ⟨⟨_, lz, _, rfl, hz20, rfl, hzs⟩, Same.refl _⟩ (fun k σ H21 hk hP => ?_) (fun σ H21 hP => ?_)
      · obtain ⟨⟨x11, lz, zs, rfl, hz, hlz, hzs⟩, s21⟩ := hP
        have hk70 : k < 70 := by omega
        have pk : (1 : Int) ≤ 2 ^ (figs size + k) := Int.pow_pos (by decide)
        have hpow : (2 : Int) ^ (figs size + k) < 2 ^ 2199 := by
          have := pow2_le (i := figs size + k) (j := 2100) (by omega)
          have e : (2 : Int) ^ 2199 = 2 ^ 99 * 2 ^ 2100 := by rw [← Int.pow_add]
          have p : (1 : Int) ≤ 2 ^ 2100 := Int.pow_pos (by decide)
          have e99 : (2 : Int) ^ 99 = 633825300114114700748351602688 := by decide
          rw [e, e99]
          generalize (2 : Int) ^ 2100 = X at *
          omega
        refine ⟨_, rfl, _, rfl, figs size + k, rfl, rfl, by omega, _, _, rfl, rfl, _, rfl, figs size + k, rfl, rfl, by omega, (by show 2 ≤ sizeLine; decide), fun l2 nl2 => ?_⟩
        have s22 := same_new (o := .lst [.int (2 ^ (figs size + k) - 1), .int (2 ^ (figs size + k))]) nl2
        refine ⟨lz, l2, _, _, rfl, rfl, s22 _ _ hz, upd_same, ?_, fun z nz => ?_⟩
        · rw [List.length_map]
          show zs.length + 2 ≤ sizeLine
          exact sz (by omega)
        have s23 := s22.trans (same_new (o := .lst (zs.map V.int ++ [.int (2 ^ (figs size + k) - 1), .int (2 ^ (figs size + k))])) nz)
        refine ⟨⟨_, z, zs ++ [2 ^ (figs size + k) - 1, 2 ^ (figs size + k)], rfl, ?_, ?_, fun x hx => ?_⟩, s21.trans s23⟩
        · rw [upd_same, List.map_append]
          rfl
        · rw [List.length_append, hlz]
          show 6 + 2 * k + 2 = 6 + 2 * (k + 1)
          omega
        · rcases List.mem_append.mp hx with h | h
          · exact hzs x h
          · simp only [List.mem_cons, List.mem_nil_iff, or_false] at h
            rcases h with rfl | rfl
            · exact ⟨by omega, by omega⟩
            · exact ⟨by omega, hpow⟩
      · obtain ⟨⟨x11, lz, zs, rfl, hz, hlz, hzs⟩, s21⟩ := hP
        have K1 := J1.same s21
        have K2 := J2.same s21
        have hD21 := hD20.same s21
        have T21 := T20.ext fun b o e => s21 b o e
        have hW21 := s21 _ _ hW20
        have lzs : zs.length ≤ 200 := by omega
        refine ⟨_, rfl, lz, rfl, ⟨_, SqL.of hz⟩, fun D nD => ?_⟩
        refine lc_list (xs := zs.map V.int) (fun k H' => Same H21 H' ∧ ∃ bs : List Bool, H' D = some (.lst (bs.map V.bl)) ∧ bs.all id = true ∧ bs.length ≤ k) ⟨same_new nD, [], upd_same, rfl, Nat.le_refl _⟩ (fun k H' _ hP => SqL.of (hP.1 _ _ hz)) (fun k x H22 hx hP => ?_) (fun H22 hP => ?_)
        · obtain ⟨s22, bs, hDb, hall, hlb⟩ := hP
          rw [List.getElem?_map] at hx
          obtain ⟨z, hzk, rfl⟩ := Option.map_eq_some_iff.mp hx
          obtain ⟨z0, z1⟩ := hzs z (List.mem_of_getElem? hzk)
          have hkl := (List.getElem?_eq_some_iff.mp hzk).1
          refine ⟨rfl, ?_⟩
          refine ⟨_, rfl, _, rfl, _, _, rfl, rfl, _, rfl, ite2 (fun c => ?_) (fun _ => ⟨s22, bs, hDb, hall, by omega⟩)⟩
          have c1 : size ≤ z := of_decide_eq_true c
          refine ⟨_, rfl, _, rfl, _, rfl, S1, rs1, ls1, S2, rs2, ls2, z, rfl, (K1.same s22).sums, (K2.same s22).sums, K1.ok.ok, K2.ok.ok, z0, nat_room z0 z1, fun H23 s23 => ?_⟩
          have ez : sgX (dif2 rs1 rs2 z) = sg := hset.2.1 z c1
          refine ⟨_, rfl, rfl, bs.map V.bl, s23 _ _ hDb, ?_, Same.upd_new (s22.trans s23) nD, bs ++ [true], ?_, ?_, ?_⟩
          · rw [List.length_map]
            exact szl (by omega)
          · rw [upd_same, List.map_append, ez, decide_eq_true rfl]
            rfl
          · rw [List.all_append, hall]
            rfl
          · rw [List.length_append]
            show bs.length + 1 ≤ k + 1
            omega
        · obtain ⟨s22, bs, hDb, hall, hlb⟩ := hP
          refine ⟨D, bs, rfl, SqL.of hDb, _, rfl, ?_⟩
          rw [hall]
          exact iteF ⟨⟨_, _, _, _, _, _, _, _, _, _, _, rfl⟩, hD21.same s22, T21.ext fun b o e => s22 b o e, s22 _ _ hW21⟩
    · have s14 := same_new (o := .tup [.str "Far", .non]) np
      have sA := s13.trans s14
      refine ⟨p, _, rfl, SqT.of upd_same, rfl, _, _, rfl, _, _, rfl, rfl, ?_⟩
      have hw : 20 < m3 := by
        rcases m30 with e | e
        · exact (no_far2 C1.ok C2.ok (by rw [e]; decide) (by decide) he n0 hn hf).elim
        · omega
      refine ⟨_, rfl, rfl, _, rfl, ite2 (fun _ => ?_) (fun z => absurd (by decide +kernel) z)⟩
      refine ⟨_, rfl, _, _, rfl, rfl, _, rfl, ite2 (fun _ => ?_) (fun z => absurd (decide_eq_true hw) z)⟩
      exact ⟨⟨_, _, _, _, _, _, _, _, _, _, _, rfl⟩, hD12.same sA, T12.ext fun b o e => sA b o e, sA _ _ hW12⟩
  · exact q H2
theorem lawAt {K : PySem.W.Frag} {h : Heap} {w : World} (T : Tops K mg) (X : Exx K mg) {c Pt : Addr} (hcode : T.dlaw.code = .ref c) (hhd : PySem.W.CodeHd h c Pt) (hP : h.get? Pt = some { cls := .none, data := .fields #[] }) (nP : K.lookup Pt = none) : LamX.LawAtS PySem.Challenge.rw_outgrow_k18_figures_outgrown w K C8.CX0 50 63 "_law_script" mg T.flaw h :=
  ⟨T.dlaw, [(c, Pt)], spLawT K Pt, fun p hp => by rw [List.mem_singleton.mp hp]; exact hP, fun p hp => by rw [List.mem_singleton.mp hp]; exact nP, fun p hp => by rw [List.mem_singleton.mp hp]; exact hhd, T.blaw,
    fun H a ns hl _ hT hS => ⟨a, ns, rfl, hS, hl, hT (c, Pt) List.mem_cons_self, fun _ => rfl⟩, fun base _ _ tb => ok_lawT T X hcode (tb (c, Pt) List.mem_cons_self)⟩
end
end K18

set_option Elab.async false
set_option linter.all false
set_option maxRecDepth 100000
set_option maxHeartbeats 4000000
namespace K18
open PySem PySem.Spec PyProof.Rows L2 OG
theorem all_mk {K : PySem.W.Frag} {h : Heap} {mg : Str → Option Value} {fa : Addr} (X : K.In h) (G : h.Ns mainGlobals mg) (hfa : mg "law" = some (.ref fa))
    {f1 : Addr} {od1 an1 : Option Addr} {sl1 : Array (Option Value)} {oc1 kV1 dc1 pm1 cd1 ct1 : Value}
    {f2 : Addr} {od2 an2 : Option Addr} {sl2 : Array (Option Value)} {oc2 kV2 dc2 pm2 cd2 ct2 : Value}
    {f3 : Addr} {od3 an3 : Option Addr} {sl3 : Array (Option Value)} {oc3 kV3 dc3 pm3 cd3 ct3 : Value}
    {f4 : Addr} {od4 an4 : Option Addr} {sl4 : Array (Option Value)} {oc4 kV4 dc4 pm4 cd4 ct4 : Value}
    {f5 : Addr} {od5 an5 : Option Addr} {sl5 : Array (Option Value)} {oc5 kV5 dc5 pm5 cd5 ct5 : Value}
    {f6 : Addr} {od6 an6 : Option Addr} {sl6 : Array (Option Value)} {oc6 kV6 dc6 pm6 cd6 ct6 : Value}
    {f7 : Addr} {od7 an7 : Option Addr} {sl7 : Array (Option Value)} {oc7 kV7 dc7 pm7 cd7 ct7 : Value}
    {f8 : Addr} {od8 an8 : Option Addr} {sl8 : Array (Option Value)} {oc8 kV8 dc8 pm8 cd8 ct8 : Value}
    {f9 : Addr} {od9 an9 : Option Addr} {sl9 : Array (Option Value)} {oc9 kV9 dc9 pm9 cd9 ct9 : Value}
    {f10 : Addr} {od10 an10 : Option Addr} {sl10 : Array (Option Value)} {oc10 kV10 dc10 pm10 cd10 ct10 : Value}
    {f11 : Addr} {od11 an11 : Option Addr} {sl11 : Array (Option Value)} {oc11 kV11 dc11 pm11 cd11 ct11 : Value}
    {f12 : Addr} {od12 an12 : Option Addr} {sl12 : Array (Option Value)} {oc12 kV12 dc12 pm12 cd12 ct12 : Value}
    {f13 : Addr} {od13 an13 : Option Addr} {sl13 : Array (Option Value)} {oc13 kV13 dc13 pm13 cd13 ct13 : Value}
    {f14 : Addr} {od14 an14 : Option Addr} {sl14 : Array (Option Value)} {oc14 kV14 dc14 pm14 cd14 ct14 : Value}
    {f15 : Addr} {od15 an15 : Option Addr} {sl15 : Array (Option Value)} {oc15 kV15 dc15 pm15 cd15 ct15 : Value}
    {f16 : Addr} {od16 an16 : Option Addr} {sl16 : Array (Option Value)} {oc16 kV16 dc16 pm16 cd16 ct16 : Value}
    {f17 : Addr} {od17 an17 : Option Addr} {sl17 : Array (Option Value)} {oc17 kV17 dc17 pm17 cd17 ct17 : Value}
    {f18 : Addr} {od18 an18 : Option Addr} {sl18 : Array (Option Value)} {oc18 kV18 dc18 pm18 cd18 ct18 : Value}
    {f19 : Addr} {od19 an19 : Option Addr} {sl19 : Array (Option Value)} {oc19 kV19 dc19 pm19 cd19 ct19 : Value}
    {f20 : Addr} {od20 an20 : Option Addr} {sl20 : Array (Option Value)} {oc20 kV20 dc20 pm20 cd20 ct20 : Value}
    {f21 : Addr} {od21 an21 : Option Addr} {sl21 : Array (Option Value)} {oc21 kV21 dc21 pm21 cd21 ct21 : Value}
    {f22 : Addr} {od22 an22 : Option Addr} {sl22 : Array (Option Value)} {oc22 kV22 dc22 pm22 cd22 ct22 : Value}
    {f23 : Addr} {od23 an23 : Option Addr} {sl23 : Array (Option Value)} {oc23 kV23 dc23 pm23 cd23 ct23 : Value}
    {f24 : Addr} {od24 an24 : Option Addr} {sl24 : Array (Option Value)} {oc24 kV24 dc24 pm24 cd24 ct24 : Value}
    {f25 : Addr} {od25 an25 : Option Addr} {sl25 : Array (Option Value)} {oc25 kV25 dc25 pm25 cd25 ct25 : Value}
    {f26 : Addr} {od26 an26 : Option Addr} {sl26 : Array (Option Value)} {oc26 kV26 dc26 pm26 cd26 ct26 : Value}
    {f27 : Addr} {od27 an27 : Option Addr} {sl27 : Array (Option Value)} {oc27 kV27 dc27 pm27 cd27 ct27 : Value}
    {f28 : Addr} {od28 an28 : Option Addr} {sl28 : Array (Option Value)} {oc28 kV28 dc28 pm28 cd28 ct28 : Value}
    {f29 : Addr} {od29 an29 : Option Addr} {sl29 : Array (Option Value)} {oc29 kV29 dc29 pm29 cd29 ct29 : Value}
    {f30 : Addr} {od30 an30 : Option Addr} {sl30 : Array (Option Value)} {oc30 kV30 dc30 pm30 cd30 ct30 : Value}
    {f31 : Addr} {od31 an31 : Option Addr} {sl31 : Array (Option Value)} {oc31 kV31 dc31 pm31 cd31 ct31 : Value}
    {f32 : Addr} {od32 an32 : Option Addr} {sl32 : Array (Option Value)} {oc32 kV32 dc32 pm32 cd32 ct32 : Value}
    {f33 : Addr} {od33 an33 : Option Addr} {sl33 : Array (Option Value)} {oc33 kV33 dc33 pm33 cd33 ct33 : Value}
    {f34 : Addr} {od34 an34 : Option Addr} {sl34 : Array (Option Value)} {oc34 kV34 dc34 pm34 cd34 ct34 : Value}
    {f35 : Addr} {od35 an35 : Option Addr} {sl35 : Array (Option Value)} {oc35 kV35 dc35 pm35 cd35 ct35 : Value}
    {f36 : Addr} {od36 an36 : Option Addr} {sl36 : Array (Option Value)} {oc36 kV36 dc36 pm36 cd36 ct36 : Value}
    {f37 : Addr} {od37 an37 : Option Addr} {sl37 : Array (Option Value)} {oc37 kV37 dc37 pm37 cd37 ct37 : Value}
    {f38 : Addr} {od38 an38 : Option Addr} {sl38 : Array (Option Value)} {oc38 kV38 dc38 pm38 cd38 ct38 : Value}
    {f39 : Addr} {od39 an39 : Option Addr} {sl39 : Array (Option Value)} {oc39 kV39 dc39 pm39 cd39 ct39 : Value}
    {f40 : Addr} {od40 an40 : Option Addr} {sl40 : Array (Option Value)} {oc40 kV40 dc40 pm40 cd40 ct40 : Value}
    {f41 : Addr} {od41 an41 : Option Addr} {sl41 : Array (Option Value)} {oc41 kV41 dc41 pm41 cd41 ct41 : Value}
    {f42 : Addr} {od42 an42 : Option Addr} {sl42 : Array (Option Value)} {oc42 kV42 dc42 pm42 cd42 ct42 : Value}
    {f43 : Addr} {od43 an43 : Option Addr} {sl43 : Array (Option Value)} {oc43 kV43 dc43 pm43 cd43 ct43 : Value}
    {f44 : Addr} {od44 an44 : Option Addr} {sl44 : Array (Option Value)} {oc44 kV44 dc44 pm44 cd44 ct44 : Value}
    {f45 : Addr} {od45 an45 : Option Addr} {sl45 : Array (Option Value)} {oc45 kV45 dc45 pm45 cd45 ct45 : Value}
    {f46 : Addr} {od46 an46 : Option Addr} {sl46 : Array (Option Value)} {oc46 kV46 dc46 pm46 cd46 ct46 : Value}
    {f47 : Addr} {od47 an47 : Option Addr} {sl47 : Array (Option Value)} {oc47 kV47 dc47 pm47 cd47 ct47 : Value}
    {f48 : Addr} {od48 an48 : Option Addr} {sl48 : Array (Option Value)} {oc48 kV48 dc48 pm48 cd48 ct48 : Value}
    {f49 : Addr} {od49 an49 : Option Addr} {sl49 : Array (Option Value)} {oc49 kV49 dc49 pm49 cd49 ct49 : Value}
    {f50 : Addr} {od50 an50 : Option Addr} {sl50 : Array (Option Value)} {oc50 kV50 dc50 pm50 cd50 ct50 : Value}
    {f51 : Addr} {od51 an51 : Option Addr} {sl51 : Array (Option Value)} {oc51 kV51 dc51 pm51 cd51 ct51 : Value}
    {f52 : Addr} {od52 an52 : Option Addr} {sl52 : Array (Option Value)} {oc52 kV52 dc52 pm52 cd52 ct52 : Value}
    {f53 : Addr} {od53 an53 : Option Addr} {sl53 : Array (Option Value)} {oc53 kV53 dc53 pm53 cd53 ct53 : Value}
    {f54 : Addr} {od54 an54 : Option Addr} {sl54 : Array (Option Value)} {oc54 kV54 dc54 pm54 cd54 ct54 : Value}
    {f55 : Addr} {od55 an55 : Option Addr} {sl55 : Array (Option Value)} {oc55 kV55 dc55 pm55 cd55 ct55 : Value}
    {f56 : Addr} {od56 an56 : Option Addr} {sl56 : Array (Option Value)} {oc56 kV56 dc56 pm56 cd56 ct56 : Value}
    {f57 : Addr} {od57 an57 : Option Addr} {sl57 : Array (Option Value)} {oc57 kV57 dc57 pm57 cd57 ct57 : Value}
    {va1 : Addr} {vd1 : Option Addr} {vn1 : Nat} {vs1 : Array (Option Value)} {vt1_0 vt1_1 : Tok}
    {vt2 : Tok}
    (a1 : PySem.W.nsIn K mainGlobals "sign_of" = some (some (.ref f1))) (l1 : K.lookup f1 = some ⟨oc1, od1, .func (PySem.W.fnOf "sign_of" "sign_of" (defArgs ssign_of) (defBody ssign_of) (defScope ssign_of) .none kV1 dc1 pm1 an1 cd1 ct1), sl1⟩) (c1 : PySem.W.codeIn K cd1 "sign_of" = true) (k1 : PySem.W.keepIn K (.ref f1) = true)
    (a2 : PySem.W.nsIn K mainGlobals "greatest_divisor" = some (some (.ref f2))) (l2 : K.lookup f2 = some ⟨oc2, od2, .func (PySem.W.fnOf "greatest_divisor" "greatest_divisor" (defArgs sgreatest_divisor) (defBody sgreatest_divisor) (defScope sgreatest_divisor) .none kV2 dc2 pm2 an2 cd2 ct2), sl2⟩) (c2 : PySem.W.codeIn K cd2 "greatest_divisor" = true) (k2 : PySem.W.keepIn K (.ref f2) = true)
    (a3 : PySem.W.nsIn K mainGlobals "least_multiple" = some (some (.ref f3))) (l3 : K.lookup f3 = some ⟨oc3, od3, .func (PySem.W.fnOf "least_multiple" "least_multiple" (defArgs sleast_multiple) (defBody sleast_multiple) (defScope sleast_multiple) .none kV3 dc3 pm3 an3 cd3 ct3), sl3⟩) (c3 : PySem.W.codeIn K cd3 "least_multiple" = true) (k3 : PySem.W.keepIn K (.ref f3) = true)
    (a4 : PySem.W.nsIn K mainGlobals "part_of" = some (some (.ref f4))) (l4 : K.lookup f4 = some ⟨oc4, od4, .func (PySem.W.fnOf "part_of" "part_of" (defArgs spart_of) (defBody spart_of) (defScope spart_of) .none kV4 dc4 pm4 an4 cd4 ct4), sl4⟩) (c4 : PySem.W.codeIn K cd4 "part_of" = true) (k4 : PySem.W.keepIn K (.ref f4) = true)
    (a5 : PySem.W.nsIn K mainGlobals "part_sum" = some (some (.ref f5))) (l5 : K.lookup f5 = some ⟨oc5, od5, .func (PySem.W.fnOf "part_sum" "part_sum" (defArgs spart_sum) (defBody spart_sum) (defScope spart_sum) .none kV5 dc5 pm5 an5 cd5 ct5), sl5⟩) (c5 : PySem.W.codeIn K cd5 "part_sum" = true) (k5 : PySem.W.keepIn K (.ref f5) = true)
    (a6 : PySem.W.nsIn K mainGlobals "part_less" = some (some (.ref f6))) (l6 : K.lookup f6 = some ⟨oc6, od6, .func (PySem.W.fnOf "part_less" "part_less" (defArgs spart_less) (defBody spart_less) (defScope spart_less) .none kV6 dc6 pm6 an6 cd6 ct6), sl6⟩) (c6 : PySem.W.codeIn K cd6 "part_less" = true) (k6 : PySem.W.keepIn K (.ref f6) = true)
    (a7 : PySem.W.nsIn K mainGlobals "trimmed" = some (some (.ref f7))) (l7 : K.lookup f7 = some ⟨oc7, od7, .func (PySem.W.fnOf "trimmed" "trimmed" (defArgs strimmed) (defBody strimmed) (defScope strimmed) .none kV7 dc7 pm7 an7 cd7 ct7), sl7⟩) (c7 : PySem.W.codeIn K cd7 "trimmed" = true) (k7 : PySem.W.keepIn K (.ref f7) = true)
    (a8 : PySem.W.nsIn K mainGlobals "value" = some (some (.ref f8))) (l8 : K.lookup f8 = some ⟨oc8, od8, .func (PySem.W.fnOf "value" "value" (defArgs svalue) (defBody svalue) (defScope svalue) .none kV8 dc8 pm8 an8 cd8 ct8), sl8⟩) (c8 : PySem.W.codeIn K cd8 "value" = true) (k8 : PySem.W.keepIn K (.ref f8) = true)
    (a9 : PySem.W.nsIn K mainGlobals "sign_at" = some (some (.ref f9))) (l9 : K.lookup f9 = some ⟨oc9, od9, .func (PySem.W.fnOf "sign_at" "sign_at" (defArgs ssign_at) (defBody ssign_at) (defScope ssign_at) .none kV9 dc9 pm9 an9 cd9 ct9), sl9⟩) (c9 : PySem.W.codeIn K cd9 "sign_at" = true) (k9 : PySem.W.keepIn K (.ref f9) = true)
    (a10 : PySem.W.nsIn K mainGlobals "values_from" = some (some (.ref f10))) (l10 : K.lookup f10 = some ⟨oc10, od10, .func (PySem.W.fnOf "values_from" "values_from" (defArgs svalues_from) (defBody svalues_from) (defScope svalues_from) .none kV10 dc10 pm10 an10 cd10 ct10), sl10⟩) (c10 : PySem.W.codeIn K cd10 "values_from" = true) (k10 : PySem.W.keepIn K (.ref f10) = true)
    (a11 : PySem.W.nsIn K mainGlobals "gaps" = some (some (.ref f11))) (l11 : K.lookup f11 = some ⟨oc11, od11, .func (PySem.W.fnOf "gaps" "gaps" (defArgs sgaps) (defBody sgaps) (defScope sgaps) .none kV11 dc11 pm11 an11 cd11 ct11), sl11⟩) (c11 : PySem.W.codeIn K cd11 "gaps" = true) (k11 : PySem.W.keepIn K (.ref f11) = true)
    (a12 : PySem.W.nsIn K mainGlobals "shifted" = some (some (.ref f12))) (l12 : K.lookup f12 = some ⟨oc12, od12, .func (PySem.W.fnOf "shifted" "shifted" (defArgs sshifted) (defBody sshifted) (defScope sshifted) .none kV12 dc12 pm12 an12 cd12 ct12), sl12⟩) (c12 : PySem.W.codeIn K cd12 "shifted" = true) (k12 : PySem.W.keepIn K (.ref f12) = true)
    (a13 : PySem.W.nsIn K mainGlobals "difference" = some (some (.ref f13))) (l13 : K.lookup f13 = some ⟨oc13, od13, .func (PySem.W.fnOf "difference" "difference" (defArgs sdifference) (defBody sdifference) (defScope sdifference) .none kV13 dc13 pm13 an13 cd13 ct13), sl13⟩) (c13 : PySem.W.codeIn K cd13 "difference" = true) (k13 : PySem.W.keepIn K (.ref f13) = true)
    (a14 : PySem.W.nsIn K mainGlobals "is_steady" = some (some (.ref f14))) (l14 : K.lookup f14 = some ⟨oc14, od14, .func (PySem.W.fnOf "is_steady" "is_steady" (defArgs sis_steady) (defBody sis_steady) (defScope sis_steady) .none kV14 dc14 pm14 an14 cd14 ct14), sl14⟩) (c14 : PySem.W.codeIn K cd14 "is_steady" = true) (k14 : PySem.W.keepIn K (.ref f14) = true)
    (a15 : PySem.W.nsIn K mainGlobals "is_endless" = some (some (.ref f15))) (l15 : K.lookup f15 = some ⟨oc15, od15, .func (PySem.W.fnOf "is_endless" "is_endless" (defArgs sis_endless) (defBody sis_endless) (defScope sis_endless) .none kV15 dc15 pm15 an15 cd15 ct15), sl15⟩) (c15 : PySem.W.codeIn K cd15 "is_endless" = true) (k15 : PySem.W.keepIn K (.ref f15) = true)
    (a16 : PySem.W.nsIn K mainGlobals "first_turned" = some (some (.ref f16))) (l16 : K.lookup f16 = some ⟨oc16, od16, .func (PySem.W.fnOf "first_turned" "first_turned" (defArgs sfirst_turned) (defBody sfirst_turned) (defScope sfirst_turned) .none kV16 dc16 pm16 an16 cd16 ct16), sl16⟩) (c16 : PySem.W.codeIn K cd16 "first_turned" = true) (k16 : PySem.W.keepIn K (.ref f16) = true)
    (a17 : PySem.W.nsIn K mainGlobals "sign_starts" = some (some (.ref f17))) (l17 : K.lookup f17 = some ⟨oc17, od17, .func (PySem.W.fnOf "sign_starts" "sign_starts" (defArgs ssign_starts) (defBody ssign_starts) (defScope ssign_starts) .none kV17 dc17 pm17 an17 cd17 ct17), sl17⟩) (c17 : PySem.W.codeIn K cd17 "sign_starts" = true) (k17 : PySem.W.keepIn K (.ref f17) = true)
    (a18 : PySem.W.nsIn K mainGlobals "ends_of" = some (some (.ref f18))) (l18 : K.lookup f18 = some ⟨oc18, od18, .func (PySem.W.fnOf "ends_of" "ends_of" (defArgs sends_of) (defBody sends_of) (defScope sends_of) .none kV18 dc18 pm18 an18 cd18 ct18), sl18⟩) (c18 : PySem.W.codeIn K cd18 "ends_of" = true) (k18 : PySem.W.keepIn K (.ref f18) = true)
    (a19 : PySem.W.nsIn K mainGlobals "runs" = some (some (.ref f19))) (l19 : K.lookup f19 = some ⟨oc19, od19, .func (PySem.W.fnOf "runs" "runs" (defArgs sruns) (defBody sruns) (defScope sruns) .none kV19 dc19 pm19 an19 cd19 ct19), sl19⟩) (c19 : PySem.W.codeIn K cd19 "runs" = true) (k19 : PySem.W.keepIn K (.ref f19) = true)
    (a20 : PySem.W.nsIn K mainGlobals "row_at" = some (some (.ref f20))) (l20 : K.lookup f20 = some ⟨oc20, od20, .func (PySem.W.fnOf "row_at" "row_at" (defArgs srow_at) (defBody srow_at) (defScope srow_at) .none kV20 dc20 pm20 an20 cd20 ct20), sl20⟩) (c20 : PySem.W.codeIn K cd20 "row_at" = true) (k20 : PySem.W.keepIn K (.ref f20) = true)
    (a21 : PySem.W.nsIn K mainGlobals "row_end" = some (some (.ref f21))) (l21 : K.lookup f21 = some ⟨oc21, od21, .func (PySem.W.fnOf "row_end" "row_end" (defArgs srow_end) (defBody srow_end) (defScope srow_end) .none kV21 dc21 pm21 an21 cd21 ct21), sl21⟩) (c21 : PySem.W.codeIn K cd21 "row_end" = true) (k21 : PySem.W.keepIn K (.ref f21) = true)
    (a22 : PySem.W.nsIn K mainGlobals "terms_less" = some (some (.ref f22))) (l22 : K.lookup f22 = some ⟨oc22, od22, .func (PySem.W.fnOf "terms_less" "terms_less" (defArgs sterms_less) (defBody sterms_less) (defScope sterms_less) .none kV22 dc22 pm22 an22 cd22 ct22), sl22⟩) (c22 : PySem.W.codeIn K cd22 "terms_less" = true) (k22 : PySem.W.keepIn K (.ref f22) = true)
    (a23 : PySem.W.nsIn K mainGlobals "whole_powers" = some (some (.ref f23))) (l23 : K.lookup f23 = some ⟨oc23, od23, .func (PySem.W.fnOf "whole_powers" "whole_powers" (defArgs swhole_powers) (defBody swhole_powers) (defScope swhole_powers) .none kV23 dc23 pm23 an23 cd23 ct23), sl23⟩) (c23 : PySem.W.codeIn K cd23 "whole_powers" = true) (k23 : PySem.W.keepIn K (.ref f23) = true)
    (a24 : PySem.W.nsIn K mainGlobals "stretches_of" = some (some (.ref f24))) (l24 : K.lookup f24 = some ⟨oc24, od24, .func (PySem.W.fnOf "stretches_of" "stretches_of" (defArgs sstretches_of) (defBody sstretches_of) (defScope sstretches_of) .none kV24 dc24 pm24 an24 cd24 ct24), sl24⟩) (c24 : PySem.W.codeIn K cd24 "stretches_of" = true) (k24 : PySem.W.keepIn K (.ref f24) = true)
    (a25 : PySem.W.nsIn K mainGlobals "put_in" = some (some (.ref f25))) (l25 : K.lookup f25 = some ⟨oc25, od25, .func (PySem.W.fnOf "put_in" "put_in" (defArgs sput_in) (defBody sput_in) (defScope sput_in) .none kV25 dc25 pm25 an25 cd25 ct25), sl25⟩) (c25 : PySem.W.codeIn K cd25 "put_in" = true) (k25 : PySem.W.keepIn K (.ref f25) = true)
    (a26 : PySem.W.nsIn K mainGlobals "lesser_weight" = some (some (.ref f26))) (l26 : K.lookup f26 = some ⟨oc26, od26, .func (PySem.W.fnOf "lesser_weight" "lesser_weight" (defArgs slesser_weight) (defBody slesser_weight) (defScope slesser_weight) .none kV26 dc26 pm26 an26 cd26 ct26), sl26⟩) (c26 : PySem.W.codeIn K cd26 "lesser_weight" = true) (k26 : PySem.W.keepIn K (.ref f26) = true)
    (a27 : PySem.W.nsIn K mainGlobals "least_low" = some (some (.ref f27))) (l27 : K.lookup f27 = some ⟨oc27, od27, .func (PySem.W.fnOf "least_low" "least_low" (defArgs sleast_low) (defBody sleast_low) (defScope sleast_low) .none kV27 dc27 pm27 an27 cd27 ct27), sl27⟩) (c27 : PySem.W.codeIn K cd27 "least_low" = true) (k27 : PySem.W.keepIn K (.ref f27) = true)
    (a28 : PySem.W.nsIn K mainGlobals "may_be_low" = some (some (.ref f28))) (l28 : K.lookup f28 = some ⟨oc28, od28, .func (PySem.W.fnOf "may_be_low" "may_be_low" (defArgs smay_be_low) (defBody smay_be_low) (defScope smay_be_low) .none kV28 dc28 pm28 an28 cd28 ct28), sl28⟩) (c28 : PySem.W.codeIn K cd28 "may_be_low" = true) (k28 : PySem.W.keepIn K (.ref f28) = true)
    (a29 : PySem.W.nsIn K mainGlobals "first_low" = some (some (.ref f29))) (l29 : K.lookup f29 = some ⟨oc29, od29, .func (PySem.W.fnOf "first_low" "first_low" (defArgs sfirst_low) (defBody sfirst_low) (defScope sfirst_low) .none kV29 dc29 pm29 an29 cd29 ct29), sl29⟩) (c29 : PySem.W.codeIn K cd29 "first_low" = true) (k29 : PySem.W.keepIn K (.ref f29) = true)
    (a30 : PySem.W.nsIn K mainGlobals "block_sign" = some (some (.ref f30))) (l30 : K.lookup f30 = some ⟨oc30, od30, .func (PySem.W.fnOf "block_sign" "block_sign" (defArgs sblock_sign) (defBody sblock_sign) (defScope sblock_sign) .none kV30 dc30 pm30 an30 cd30 ct30), sl30⟩) (c30 : PySem.W.codeIn K cd30 "block_sign" = true) (k30 : PySem.W.keepIn K (.ref f30) = true)
    (a31 : PySem.W.nsIn K mainGlobals "settled" = some (some (.ref f31))) (l31 : K.lookup f31 = some ⟨oc31, od31, .func (PySem.W.fnOf "settled" "settled" (defArgs ssettled) (defBody ssettled) (defScope ssettled) .none kV31 dc31 pm31 an31 cd31 ct31), sl31⟩) (c31 : PySem.W.codeIn K cd31 "settled" = true) (k31 : PySem.W.keepIn K (.ref f31) = true)
    (a32 : PySem.W.nsIn K mainGlobals "settled_rows" = some (some (.ref f32))) (l32 : K.lookup f32 = some ⟨oc32, od32, .func (PySem.W.fnOf "settled_rows" "settled_rows" (defArgs ssettled_rows) (defBody ssettled_rows) (defScope ssettled_rows) .none kV32 dc32 pm32 an32 cd32 ct32), sl32⟩) (c32 : PySem.W.codeIn K cd32 "settled_rows" = true) (k32 : PySem.W.keepIn K (.ref f32) = true)
    (a33 : PySem.W.nsIn K mainGlobals "check_near" = some (some (.ref f33))) (l33 : K.lookup f33 = some ⟨oc33, od33, .func (PySem.W.fnOf "check_near" "check_near" (defArgs scheck_near) (defBody scheck_near) (defScope scheck_near) .none kV33 dc33 pm33 an33 cd33 ct33), sl33⟩) (c33 : PySem.W.codeIn K cd33 "check_near" = true) (k33 : PySem.W.keepIn K (.ref f33) = true)
    (a34 : PySem.W.nsIn K mainGlobals "figures_rows" = some (some (.ref f34))) (l34 : K.lookup f34 = some ⟨oc34, od34, .func (PySem.W.fnOf "figures_rows" "figures_rows" (defArgs sfigures_rows) (defBody sfigures_rows) (defScope sfigures_rows) .none kV34 dc34 pm34 an34 cd34 ct34), sl34⟩) (c34 : PySem.W.codeIn K cd34 "figures_rows" = true) (k34 : PySem.W.keepIn K (.ref f34) = true)
    (a35 : PySem.W.nsIn K mainGlobals "sizes_rows" = some (some (.ref f35))) (l35 : K.lookup f35 = some ⟨oc35, od35, .func (PySem.W.fnOf "sizes_rows" "sizes_rows" (defArgs ssizes_rows) (defBody ssizes_rows) (defScope ssizes_rows) .none kV35 dc35 pm35 an35 cd35 ct35), sl35⟩) (c35 : PySem.W.codeIn K cd35 "sizes_rows" = true) (k35 : PySem.W.keepIn K (.ref f35) = true)
    (a36 : PySem.W.nsIn K mainGlobals "cells" = some (some (.ref f36))) (l36 : K.lookup f36 = some ⟨oc36, od36, .func (PySem.W.fnOf "cells" "cells" (defArgs scells) (defBody scells) (defScope scells) .none kV36 dc36 pm36 an36 cd36 ct36), sl36⟩) (c36 : PySem.W.codeIn K cd36 "cells" = true) (k36 : PySem.W.keepIn K (.ref f36) = true)
    (a37 : PySem.W.nsIn K mainGlobals "falling_cells" = some (some (.ref f37))) (l37 : K.lookup f37 = some ⟨oc37, od37, .func (PySem.W.fnOf "falling_cells" "falling_cells" (defArgs sfalling_cells) (defBody sfalling_cells) (defScope sfalling_cells) .none kV37 dc37 pm37 an37 cd37 ct37), sl37⟩) (c37 : PySem.W.codeIn K cd37 "falling_cells" = true) (k37 : PySem.W.keepIn K (.ref f37) = true)
    (a38 : PySem.W.nsIn K mainGlobals "alike_from" = some (some (.ref f38))) (l38 : K.lookup f38 = some ⟨oc38, od38, .func (PySem.W.fnOf "alike_from" "alike_from" (defArgs salike_from) (defBody salike_from) (defScope salike_from) .none kV38 dc38 pm38 an38 cd38 ct38), sl38⟩) (c38 : PySem.W.codeIn K cd38 "alike_from" = true) (k38 : PySem.W.keepIn K (.ref f38) = true)
    (a39 : PySem.W.nsIn K mainGlobals "last_unlike" = some (some (.ref f39))) (l39 : K.lookup f39 = some ⟨oc39, od39, .func (PySem.W.fnOf "last_unlike" "last_unlike" (defArgs slast_unlike) (defBody slast_unlike) (defScope slast_unlike) .none kV39 dc39 pm39 an39 cd39 ct39), sl39⟩) (c39 : PySem.W.codeIn K cd39 "last_unlike" = true) (k39 : PySem.W.keepIn K (.ref f39) = true)
    (a40 : PySem.W.nsIn K mainGlobals "compared" = some (some (.ref f40))) (l40 : K.lookup f40 = some ⟨oc40, od40, .func (PySem.W.fnOf "compared" "compared" (defArgs scompared) (defBody scompared) (defScope scompared) .none kV40 dc40 pm40 an40 cd40 ct40), sl40⟩) (c40 : PySem.W.codeIn K cd40 "compared" = true) (k40 : PySem.W.keepIn K (.ref f40) = true)
    (a41 : PySem.W.nsIn K mainGlobals "_law_begin" = some (some (.ref f41))) (l41 : K.lookup f41 = some ⟨oc41, od41, .func (PySem.W.fnOf "_law_begin" "_law_begin" (defArgs sl_begin) (defBody sl_begin) (defScope sl_begin) .none kV41 dc41 pm41 an41 cd41 ct41), sl41⟩) (c41 : PySem.W.codeIn K cd41 "_law_begin" = true) (k41 : PySem.W.keepIn K (.ref f41) = true)
    (a42 : PySem.W.nsIn K mainGlobals "_law_take" = some (some (.ref f42))) (l42 : K.lookup f42 = some ⟨oc42, od42, .func (PySem.W.fnOf "_law_take" "_law_take" (defArgs sl_take) (defBody sl_take) (defScope sl_take) .none kV42 dc42 pm42 an42 cd42 ct42), sl42⟩) (c42 : PySem.W.codeIn K cd42 "_law_take" = true) (k42 : PySem.W.keepIn K (.ref f42) = true)
    (a43 : PySem.W.nsIn K mainGlobals "_law_gcd" = some (some (.ref f43))) (l43 : K.lookup f43 = some ⟨oc43, od43, .func (PySem.W.fnOf "_law_gcd" "_law_gcd" (defArgs sl_gcd) (defBody sl_gcd) (defScope sl_gcd) .none kV43 dc43 pm43 an43 cd43 ct43), sl43⟩) (c43 : PySem.W.codeIn K cd43 "_law_gcd" = true) (k43 : PySem.W.keepIn K (.ref f43) = true)
    (a44 : PySem.W.nsIn K mainGlobals "_law_lowest" = some (some (.ref f44))) (l44 : K.lookup f44 = some ⟨oc44, od44, .func (PySem.W.fnOf "_law_lowest" "_law_lowest" (defArgs sl_lowest) (defBody sl_lowest) (defScope sl_lowest) .none kV44 dc44 pm44 an44 cd44 ct44), sl44⟩) (c44 : PySem.W.codeIn K cd44 "_law_lowest" = true) (k44 : PySem.W.keepIn K (.ref f44) = true)
    (a45 : PySem.W.nsIn K mainGlobals "_law_terms" = some (some (.ref f45))) (l45 : K.lookup f45 = some ⟨oc45, od45, .func (PySem.W.fnOf "_law_terms" "_law_terms" (defArgs sl_terms) (defBody sl_terms) (defScope sl_terms) .none kV45 dc45 pm45 an45 cd45 ct45), sl45⟩) (c45 : PySem.W.codeIn K cd45 "_law_terms" = true) (k45 : PySem.W.keepIn K (.ref f45) = true)
    (a46 : PySem.W.nsIn K mainGlobals "_law_drawn_sums" = some (some (.ref f46))) (l46 : K.lookup f46 = some ⟨oc46, od46, .func (PySem.W.fnOf "_law_drawn_sums" "_law_drawn_sums" (defArgs sl_drawn_sums) (defBody sl_drawn_sums) (defScope sl_drawn_sums) .none kV46 dc46 pm46 an46 cd46 ct46), sl46⟩) (c46 : PySem.W.codeIn K cd46 "_law_drawn_sums" = true) (k46 : PySem.W.keepIn K (.ref f46) = true)
    (a47 : PySem.W.nsIn K mainGlobals "_law_great_sums" = some (some (.ref f47))) (l47 : K.lookup f47 = some ⟨oc47, od47, .func (PySem.W.fnOf "_law_great_sums" "_law_great_sums" (defArgs sl_great_sums) (defBody sl_great_sums) (defScope sl_great_sums) .none kV47 dc47 pm47 an47 cd47 ct47), sl47⟩) (c47 : PySem.W.codeIn K cd47 "_law_great_sums" = true) (k47 : PySem.W.keepIn K (.ref f47) = true)
    (a48 : PySem.W.nsIn K mainGlobals "_law_class" = some (some (.ref f48))) (l48 : K.lookup f48 = some ⟨oc48, od48, .func (PySem.W.fnOf "_law_class" "_law_class" (defArgs sl_class) (defBody sl_class) (defScope sl_class) .none kV48 dc48 pm48 an48 cd48 ct48), sl48⟩) (c48 : PySem.W.codeIn K cd48 "_law_class" = true) (k48 : PySem.W.keepIn K (.ref f48) = true)
    (a49 : PySem.W.nsIn K mainGlobals "_law_tried" = some (some (.ref f49))) (l49 : K.lookup f49 = some ⟨oc49, od49, .func (PySem.W.fnOf "_law_tried" "_law_tried" (defArgs sl_tried) (defBody sl_tried) (defScope sl_tried) .none kV49 dc49 pm49 an49 cd49 ct49), sl49⟩) (c49 : PySem.W.codeIn K cd49 "_law_tried" = true) (k49 : PySem.W.keepIn K (.ref f49) = true)
    (a50 : PySem.W.nsIn K mainGlobals "_law_whole" = some (some (.ref f50))) (l50 : K.lookup f50 = some ⟨oc50, od50, .func (PySem.W.fnOf "_law_whole" "_law_whole" (defArgs sl_whole) (defBody sl_whole) (defScope sl_whole) .none kV50 dc50 pm50 an50 cd50 ct50), sl50⟩) (c50 : PySem.W.codeIn K cd50 "_law_whole" = true) (k50 : PySem.W.keepIn K (.ref f50) = true)
    (a51 : PySem.W.nsIn K mainGlobals "_law_left_over" = some (some (.ref f51))) (l51 : K.lookup f51 = some ⟨oc51, od51, .func (PySem.W.fnOf "_law_left_over" "_law_left_over" (defArgs sl_left_over) (defBody sl_left_over) (defScope sl_left_over) .none kV51 dc51 pm51 an51 cd51 ct51), sl51⟩) (c51 : PySem.W.codeIn K cd51 "_law_left_over" = true) (k51 : PySem.W.keepIn K (.ref f51) = true)
    (a52 : PySem.W.nsIn K mainGlobals "_law_signum" = some (some (.ref f52))) (l52 : K.lookup f52 = some ⟨oc52, od52, .func (PySem.W.fnOf "_law_signum" "_law_signum" (defArgs sl_signum) (defBody sl_signum) (defScope sl_signum) .none kV52 dc52 pm52 an52 cd52 ct52), sl52⟩) (c52 : PySem.W.codeIn K cd52 "_law_signum" = true) (k52 : PySem.W.keepIn K (.ref f52) = true)
    (a53 : PySem.W.nsIn K mainGlobals "_law_int" = some (some (.ref f53))) (l53 : K.lookup f53 = some ⟨oc53, od53, .func (PySem.W.fnOf "_law_int" "_law_int" (defArgs sl_int) (defBody sl_int) (defScope sl_int) .none kV53 dc53 pm53 an53 cd53 ct53), sl53⟩) (c53 : PySem.W.codeIn K cd53 "_law_int" = true) (k53 : PySem.W.keepIn K (.ref f53) = true)
    (a54 : PySem.W.nsIn K mainGlobals "_law_raised" = some (some (.ref f54))) (l54 : K.lookup f54 = some ⟨oc54, od54, .func (PySem.W.fnOf "_law_raised" "_law_raised" (defArgs sl_raised) (defBody sl_raised) (defScope sl_raised) .none kV54 dc54 pm54 an54 cd54 ct54), sl54⟩) (c54 : PySem.W.codeIn K cd54 "_law_raised" = true) (k54 : PySem.W.keepIn K (.ref f54) = true)
    (a55 : PySem.W.nsIn K mainGlobals "_law_sums_at" = some (some (.ref f55))) (l55 : K.lookup f55 = some ⟨oc55, od55, .func (PySem.W.fnOf "_law_sums_at" "_law_sums_at" (defArgs sl_sums_at) (defBody sl_sums_at) (defScope sl_sums_at) .none kV55 dc55 pm55 an55 cd55 ct55), sl55⟩) (c55 : PySem.W.codeIn K cd55 "_law_sums_at" = true) (k55 : PySem.W.keepIn K (.ref f55) = true)
    (a56 : PySem.W.nsIn K mainGlobals "_law_sign_at" = some (some (.ref f56))) (l56 : K.lookup f56 = some ⟨oc56, od56, .func (PySem.W.fnOf "_law_sign_at" "_law_sign_at" (defArgs sl_sign_at) (defBody sl_sign_at) (defScope sl_sign_at) .none kV56 dc56 pm56 an56 cd56 ct56), sl56⟩) (c56 : PySem.W.codeIn K cd56 "_law_sign_at" = true) (k56 : PySem.W.keepIn K (.ref f56) = true)
    (a57 : PySem.W.nsIn K mainGlobals "law" = some (some (.ref f57))) (l57 : K.lookup f57 = some ⟨oc57, od57, .func (PySem.W.fnOf "law" "law" (defArgs slaw) (defBody slaw) (defScope slaw) .none kV57 dc57 pm57 an57 cd57 ct57), sl57⟩) (c57 : PySem.W.codeIn K cd57 "law" = true) (k57 : PySem.W.keepIn K (.ref f57) = true)
    (z1 : PySem.W.nsIn K mainGlobals "abs" = some none)
    (z2 : PySem.W.nsIn K mainGlobals "all" = some none)
    (z3 : PySem.W.nsIn K mainGlobals "bool" = some none)
    (z4 : PySem.W.nsIn K mainGlobals "enumerate" = some none)
    (z5 : PySem.W.nsIn K mainGlobals "int" = some none)
    (z6 : PySem.W.nsIn K mainGlobals "isinstance" = some none)
    (z7 : PySem.W.nsIn K mainGlobals "len" = some none)
    (z8 : PySem.W.nsIn K mainGlobals "list" = some none)
    (z9 : PySem.W.nsIn K mainGlobals "max" = some none)
    (z10 : PySem.W.nsIn K mainGlobals "min" = some none)
    (z11 : PySem.W.nsIn K mainGlobals "range" = some none)
    (z12 : PySem.W.nsIn K mainGlobals "reversed" = some none)
    (z13 : PySem.W.nsIn K mainGlobals "set" = some none)
    (z14 : PySem.W.nsIn K mainGlobals "sorted" = some none)
    (z15 : PySem.W.nsIn K mainGlobals "zip" = some none)
    (v1 : PySem.W.nsIn K mainGlobals "NOUGHT" = some (some (.ref va1))) (w1 : K.lookup va1 = some ⟨.type "tuple", vd1, .seq #[.int 0 vt1_0, .int 1 vt1_1] vn1, vs1⟩)
    (v2 : PySem.W.nsIn K mainGlobals "MOST_SIZE_FIGURES" = some (some (.int 2000 vt2))) :
    ∃ T : Tops K mg, T.flaw = fa := by
  have e := hfa.symm.trans (PySem.W.mg_of X G a57)
  refine ⟨{ fsign_of := f1, dsign_of := _, Fsign_of := (fun_mk (st := ssign_of) l1 c1 k1), gsign_of := (PySem.W.mg_of X G a1), fgreatest_divisor := f2, dgreatest_divisor := _, Fgreatest_divisor := (fun_mk (st := sgreatest_divisor) l2 c2 k2), ggreatest_divisor := (PySem.W.mg_of X G a2), fleast_multiple := f3, dleast_multiple := _, Fleast_multiple := (fun_mk (st := sleast_multiple) l3 c3 k3), gleast_multiple := (PySem.W.mg_of X G a3), fpart_of := f4, dpart_of := _, Fpart_of := (fun_mk (st := spart_of) l4 c4 k4), gpart_of := (PySem.W.mg_of X G a4), fpart_sum := f5, dpart_sum := _, Fpart_sum := (fun_mk (st := spart_sum) l5 c5 k5), gpart_sum := (PySem.W.mg_of X G a5), fpart_less := f6, dpart_less := _, Fpart_less := (fun_mk (st := spart_less) l6 c6 k6), gpart_less := (PySem.W.mg_of X G a6), ftrimmed := f7, dtrimmed := _, Ftrimmed := (fun_mk (st := strimmed) l7 c7 k7), gtrimmed := (PySem.W.mg_of X G a7), fvalue := f8, dvalue := _, Fvalue := (fun_mk (st := svalue) l8 c8 k8), gvalue := (PySem.W.mg_of X G a8), fsign_at := f9, dsign_at := _, Fsign_at := (fun_mk (st := ssign_at) l9 c9 k9), gsign_at := (PySem.W.mg_of X G a9), fvalues_from := f10, dvalues_from := _, Fvalues_from := (fun_mk (st := svalues_from) l10 c10 k10), gvalues_from := (PySem.W.mg_of X G a10), fgaps := f11, dgaps := _, Fgaps := (fun_mk (st := sgaps) l11 c11 k11), ggaps := (PySem.W.mg_of X G a11), fshifted := f12, dshifted := _, Fshifted := (fun_mk (st := sshifted) l12 c12 k12), gshifted := (PySem.W.mg_of X G a12), fdifference := f13, ddifference := _, Fdifference := (fun_mk (st := sdifference) l13 c13 k13), gdifference := (PySem.W.mg_of X G a13), fis_steady := f14, dis_steady := _, Fis_steady := (fun_mk (st := sis_steady) l14 c14 k14), gis_steady := (PySem.W.mg_of X G a14), fis_endless := f15, dis_endless := _, Fis_endless := (fun_mk (st := sis_endless) l15 c15 k15), gis_endless := (PySem.W.mg_of X G a15), ffirst_turned := f16, dfirst_turned := _, Ffirst_turned := (fun_mk (st := sfirst_turned) l16 c16 k16), gfirst_turned := (PySem.W.mg_of X G a16), fsign_starts := f17, dsign_starts := _, Fsign_starts := (fun_mk (st := ssign_starts) l17 c17 k17), gsign_starts := (PySem.W.mg_of X G a17), fends_of := f18, dends_of := _, Fends_of := (fun_mk (st := sends_of) l18 c18 k18), gends_of := (PySem.W.mg_of X G a18), fruns := f19, druns := _, Fruns := (fun_mk (st := sruns) l19 c19 k19), gruns := (PySem.W.mg_of X G a19), frow_at := f20, drow_at := _, Frow_at := (fun_mk (st := srow_at) l20 c20 k20), grow_at := (PySem.W.mg_of X G a20), frow_end := f21, drow_end := _, Frow_end := (fun_mk (st := srow_end) l21 c21 k21), grow_end := (PySem.W.mg_of X G a21), fterms_less := f22, dterms_less := _, Fterms_less := (fun_mk (st := sterms_less) l22 c22 k22), gterms_less := (PySem.W.mg_of X G a22), fwhole_powers := f23, dwhole_powers := _, Fwhole_powers := (fun_mk (st := swhole_powers) l23 c23 k23), gwhole_powers := (PySem.W.mg_of X G a23), fstretches_of := f24, dstretches_of := _, Fstretches_of := (fun_mk (st := sstretches_of) l24 c24 k24), gstretches_of := (PySem.W.mg_of X G a24), fput_in := f25, dput_in := _, Fput_in := (fun_mk (st := sput_in) l25 c25 k25), gput_in := (PySem.W.mg_of X G a25), flesser_weight := f26, dlesser_weight := _, Flesser_weight := (fun_mk (st := slesser_weight) l26 c26 k26), glesser_weight := (PySem.W.mg_of X G a26), fleast_low := f27, dleast_low := _, Fleast_low := (fun_mk (st := sleast_low) l27 c27 k27), gleast_low := (PySem.W.mg_of X G a27), fmay_be_low := f28, dmay_be_low := _, Fmay_be_low := (fun_mk (st := smay_be_low) l28 c28 k28), gmay_be_low := (PySem.W.mg_of X G a28), ffirst_low := f29, dfirst_low := _, Ffirst_low := (fun_mk (st := sfirst_low) l29 c29 k29), gfirst_low := (PySem.W.mg_of X G a29), fblock_sign := f30, dblock_sign := _, Fblock_sign := (fun_mk (st := sblock_sign) l30 c30 k30), gblock_sign := (PySem.W.mg_of X G a30), fsettled := f31, dsettled := _, Fsettled := (fun_mk (st := ssettled) l31 c31 k31), gsettled := (PySem.W.mg_of X G a31), fsettled_rows := f32, dsettled_rows := _, Fsettled_rows := (fun_mk (st := ssettled_rows) l32 c32 k32), gsettled_rows := (PySem.W.mg_of X G a32), fcheck_near := f33, dcheck_near := _, Fcheck_near := (fun_mk (st := scheck_near) l33 c33 k33), gcheck_near := (PySem.W.mg_of X G a33), ffigures_rows := f34, dfigures_rows := _, Ffigures_rows := (fun_mk (st := sfigures_rows) l34 c34 k34), gfigures_rows := (PySem.W.mg_of X G a34), fsizes_rows := f35, dsizes_rows := _, Fsizes_rows := (fun_mk (st := ssizes_rows) l35 c35 k35), gsizes_rows := (PySem.W.mg_of X G a35), fcells := f36, dcells := _, Fcells := (fun_mk (st := scells) l36 c36 k36), gcells := (PySem.W.mg_of X G a36), ffalling_cells := f37, dfalling_cells := _, Ffalling_cells := (fun_mk (st := sfalling_cells) l37 c37 k37), gfalling_cells := (PySem.W.mg_of X G a37), falike_from := f38, dalike_from := _, Falike_from := (fun_mk (st := salike_from) l38 c38 k38), galike_from := (PySem.W.mg_of X G a38), flast_unlike := f39, dlast_unlike := _, Flast_unlike := (fun_mk (st := slast_unlike) l39 c39 k39), glast_unlike := (PySem.W.mg_of X G a39), fcompared := f40, dcompared := _, Fcompared := (fun_mk (st := scompared) l40 c40 k40), gcompared := (PySem.W.mg_of X G a40), fl_begin := f41, dl_begin := _, Fl_begin := (fun_mk (st := sl_begin) l41 c41 k41), gl_begin := (PySem.W.mg_of X G a41), fl_take := f42, dl_take := _, Fl_take := (fun_mk (st := sl_take) l42 c42 k42), gl_take := (PySem.W.mg_of X G a42), fl_gcd := f43, dl_gcd := _, Fl_gcd := (fun_mk (st := sl_gcd) l43 c43 k43), gl_gcd := (PySem.W.mg_of X G a43), fl_lowest := f44, dl_lowest := _, Fl_lowest := (fun_mk (st := sl_lowest) l44 c44 k44), gl_lowest := (PySem.W.mg_of X G a44), fl_terms := f45, dl_terms := _, Fl_terms := (fun_mk (st := sl_terms) l45 c45 k45), gl_terms := (PySem.W.mg_of X G a45), fl_drawn_sums := f46, dl_drawn_sums := _, Fl_drawn_sums := (fun_mk (st := sl_drawn_sums) l46 c46 k46), gl_drawn_sums := (PySem.W.mg_of X G a46), fl_great_sums := f47, dl_great_sums := _, Fl_great_sums := (fun_mk (st := sl_great_sums) l47 c47 k47), gl_great_sums := (PySem.W.mg_of X G a47), fl_class := f48, dl_class := _, Fl_class := (fun_mk (st := sl_class) l48 c48 k48), gl_class := (PySem.W.mg_of X G a48), fl_tried := f49, dl_tried := _, Fl_tried := (fun_mk (st := sl_tried) l49 c49 k49), gl_tried := (PySem.W.mg_of X G a49), fl_whole := f50, dl_whole := _, Fl_whole := (fun_mk (st := sl_whole) l50 c50 k50), gl_whole := (PySem.W.mg_of X G a50), fl_left_over := f51, dl_left_over := _, Fl_left_over := (fun_mk (st := sl_left_over) l51 c51 k51), gl_left_over := (PySem.W.mg_of X G a51), fl_signum := f52, dl_signum := _, Fl_signum := (fun_mk (st := sl_signum) l52 c52 k52), gl_signum := (PySem.W.mg_of X G a52), fl_int := f53, dl_int := _, Fl_int := (fun_mk (st := sl_int) l53 c53 k53), gl_int := (PySem.W.mg_of X G a53), fl_raised := f54, dl_raised := _, Fl_raised := (fun_mk (st := sl_raised) l54 c54 k54), gl_raised := (PySem.W.mg_of X G a54), fl_sums_at := f55, dl_sums_at := _, Fl_sums_at := (fun_mk (st := sl_sums_at) l55 c55 k55), gl_sums_at := (PySem.W.mg_of X G a55), fl_sign_at := f56, dl_sign_at := _, Fl_sign_at := (fun_mk (st := sl_sign_at) l56 c56 k56), gl_sign_at := (PySem.W.mg_of X G a56), flaw := f57, dlaw := _, Flaw := (fun_mk (st := slaw) l57 c57 k57), glaw := (PySem.W.mg_of X G a57), mabs := PySem.W.mg_none_of X G z1, mall := PySem.W.mg_none_of X G z2, mbool := PySem.W.mg_none_of X G z3, menumerate := PySem.W.mg_none_of X G z4, mint := PySem.W.mg_none_of X G z5, misinstance := PySem.W.mg_none_of X G z6, mlen := PySem.W.mg_none_of X G z7, mlist := PySem.W.mg_none_of X G z8, mmax := PySem.W.mg_none_of X G z9, mmin := PySem.W.mg_none_of X G z10, mrange := PySem.W.mg_none_of X G z11, mreversed := PySem.W.mg_none_of X G z12, mset := PySem.W.mg_none_of X G z13, msorted := PySem.W.mg_none_of X G z14, mzip := PySem.W.mg_none_of X G z15, aNOUGHT := va1, cNOUGHT := ⟨_, PySem.W.mg_of X G v1, rfl⟩, tNOUGHT := fun H => .inr ⟨_, _, _, w1, rfl, rfl, (by show 2 ≤ sizeLine; decide), (.cons ⟨_, rfl⟩ (.cons ⟨_, rfl⟩ .nil))⟩, cMOST_SIZE_FIGURES := ⟨_, PySem.W.mg_of X G v2, ⟨_, rfl⟩⟩ }, ?_⟩
  cases e
  rfl
theorem law_fin {K : PySem.W.Frag} {h : Heap} {w : World} {mg : Str → Option Value} (X : K.In h) (G : h.Ns mainGlobals mg) (T : Tops K mg) (E : Exx K mg) {f c P : Addr} {oc dV kV dc pm ct : Value} {od an dd : Option Addr} {sl sl2 : Array (Option Value)} {vs : Array Value} {fl : Str} {tf tg tt : Tok} {flags tx : Int} {inF : Bool}
    (aL : PySem.W.nsIn K mainGlobals "law" = some (some (.ref f))) (l : K.lookup f = some ⟨oc, od, .func (PySem.W.fnOf "law" "law" (defArgs slaw) (defBody slaw) (defScope slaw) dV kV dc pm an (.ref c) ct), sl⟩)
    (lc : K.lookup c = some ⟨.type "code", dd, .fields vs, sl2⟩) (h11 : vs[11]? = some (.ref P)) (g11 : vs.getD 11 .none = .ref P) (h18 : vs.getD 18 .none = .str fl tf) (h7 : vs.getD 7 .none = .int flags tg) (h9 : vs.getD 9 .none = .bool inF) (h10 : vs.getD 10 .none = .int tx tt) (ne : c ≠ P)
    (nP : K.lookup P = none) (hP : h.get? P = some { cls := .none, data := .fields #[] }) : LamX.LawAtS PySem.Challenge.rw_outgrow_k18_figures_outgrown w K C8.CX0 50 63 "_law_script" mg T.flaw h := by
  have e0 : T.flaw = f := by
    have z := T.glaw.symm.trans (PySem.W.mg_of X G aL)
    injection z with z
    injection z
  obtain ⟨oc', od', kV', doc', pm', an', cdv', ct', osl', e, lk, hcd⟩ := T.Flaw.ex
  rw [e0, l] at lk
  have e2 := Option.some.inj lk
  injection e2 with _ _ e3 _
  injection e3 with e4
  exact lawAt T E (by rw [← e4]) (codeHd_of X lc h11 g11 h18 h7 h9 h10 ne) hP nP
end K18
open PySem PySem.W PyProof.Rows
set_option maxRecDepth 100000 in
set_option maxHeartbeats 0 in
theorem PySem.Challenge.cw_outgrow_k18_figures_outgrown_holds : PySem.Challenge.rw_outgrow_k18_figures_outgrown.Holds := by
  w_on; o_law; k_head; (case hw => w_witness2)
  k_fill
  refine LamX.walk_ofTs (l := PySem.Challenge.rw_outgrow_k18_figures_outgrown) (n := 63) (k := 50) (x := "_law_script") (CX := fun _ => C8.CX0) rfl (by decide) rfl ⟨rfl, by decide, by decide⟩ (fun w h Y => PySem.W.km_in_of Y) ?F (fun _ _ _ _ _ h => h)
  case F =>
    intro w mg fa h Y KX G hmg
    have hT := K18.all_mk KX G hmg (by k_is) (by k_is) (by k_is) (by k_is) (by k_is) (by k_is) (by k_is) (by k_is) (by k_is) (by k_is) (by k_is) (by k_is) (by k_is) (by k_is) (by k_is) (by k_is) (by k_is) (by k_is) (by k_is) (by k_is) (by k_is) (by k_is) (by k_is) (by k_is) (by k_is) (by k_is) (by k_is) (by k_is) (by k_is) (by k_is) (by k_is) (by k_is) (by k_is) (by k_is) (by k_is) (by k_is) (by k_is) (by k_is) (by k_is) (by k_is) (by k_is) (by k_is) (by k_is) (by k_is) (by k_is) (by k_is) (by k_is) (by k_is) (by k_is) (by k_is) (by k_is) (by k_is) (by k_is) (by k_is) (by k_is) (by k_is) (by k_is) (by k_is) (by k_is) (by k_is) (by k_is) (by k_is) (by k_is) (by k_is) (by k_is) (by k_is) (by k_is) (by k_is) (by k_is) (by k_is) (by k_is) (by k_is) (by k_is) (by k_is) (by k_is) (by k_is) (by k_is) (by k_is) (by k_is) (by k_is) (by k_is) (by k_is) (by k_is) (by k_is) (by k_is) (by k_is) (by k_is) (by k_is) (by k_is) (by k_is) (by k_is) (by k_is) (by k_is) (by k_is) (by k_is) (by k_is) (by k_is) (by k_is) (by k_is) (by k_is) (by k_is) (by k_is) (by k_is) (by k_is) (by k_is) (by k_is) (by k_is) (by k_is) (by k_is) (by k_is) (by k_is) (by k_is) (by k_is) (by k_is) (by k_is) (by k_is) (by k_is) (by k_is) (by k_is) (by k_is) (by k_is) (by k_is) (by k_is) (by k_is) (by k_is) (by k_is) (by k_is) (by k_is) (by k_is) (by k_is) (by k_is) (by k_is) (by k_is) (by k_is) (by k_is) (by k_is) (by k_is) (by k_is) (by k_is) (by k_is) (by k_is) (by k_is) (by k_is) (by k_is) (by k_is) (by k_is) (by k_is) (by k_is) (by k_is) (by k_is) (by k_is) (by k_is) (by k_is) (by k_is) (by k_is) (by k_is) (by k_is) (by k_is) (by k_is) (by k_is) (by k_is) (by k_is) (by k_is) (by k_is) (by k_is) (by k_is) (by k_is) (by k_is) (by k_is) (by k_is) (by k_is) (by k_is) (by k_is) (by k_is) (by k_is) (by k_is) (by k_is) (by k_is) (by k_is) (by k_is) (by k_is) (by k_is) (by k_is) (by k_is) (by k_is) (by k_is) (by k_is) (by k_is) (by k_is) (by k_is) (by k_is) (by k_is) (by k_is) (by k_is) (by k_is) (by k_is) (by k_is) (by k_is) (by k_is) (by k_is) (by k_is) (by k_is) (by k_is) (by k_is) (by k_is) (by k_is) (by k_is) (by k_is) (by k_is) (by k_is) (by k_is) (by k_is) (by k_is) (by k_is) (by k_is) (by k_is) (by k_is) (by k_is) (by k_is) (by k_is) (by k_is) (by k_is) (by k_is) (by k_is) (by k_is) (by k_is) (by k_is) (by k_is) (by k_is) (by k_is) (by k_is) (by k_is) (by k_is) (by k_is) (by k_is) (by k_is) (by k_is) (by k_is) (by k_is) (by k_is) (by k_is) (by k_is) (by k_is) (by k_is) (by k_is) (by k_is)
    obtain ⟨T, rfl⟩ := hT
    have hX := K18.exx_mk KX G (by first | k_is | rfl) (by first | k_is | rfl) (by first | k_is | rfl) (by first | k_is | rfl) (by first | k_is | rfl) (by first | k_is | rfl) (by first | k_is | rfl) (by first | k_is | rfl) (by first | k_is | rfl) (by first | k_is | rfl) (by first | k_is | rfl) (by first | k_is | rfl) (by first | k_is | rfl) (by first | k_is | rfl) (by first | k_is | rfl) (by first | k_is | rfl) (by first | k_is | rfl) (by first | k_is | rfl) (by first | k_is | rfl) (by first | k_is | rfl) (by first | k_is | rfl) (by first | k_is | rfl) (by first | k_is | rfl) (by first | k_is | rfl) (by first | k_is | rfl) (by first | k_is | rfl) (by first | k_is | rfl) (by first | k_is | rfl) (by first | k_is | rfl) (by first | k_is | rfl) (by first | k_is | rfl) (by first | k_is | rfl) (by first | k_is | rfl) (by first | k_is | rfl) (by first | k_is | rfl) (by first | k_is | rfl) (by first | k_is | rfl) (by first | k_is | rfl) (by first | k_is | rfl) (by first | k_is | rfl) (by first | k_is | rfl) (by first | k_is | rfl) (by first | k_is | rfl) (by first | k_is | rfl) (by first | k_is | rfl) (by first | k_is | rfl) (by first | k_is | rfl) (by first | k_is | rfl) (by first | k_is | rfl) (by first | k_is | rfl) (by first | k_is | rfl) (by first | k_is | rfl) (by first | k_is | rfl) (by first | k_is | rfl) (by first | k_is | rfl) (by first | k_is | rfl) (by first | k_is | rfl) (by first | k_is | rfl) (by first | k_is | rfl) (by first | k_is | rfl) (by first | k_is | rfl) (by first | k_is | rfl) (by first | k_is | rfl) (by first | k_is | rfl) (by first | k_is | rfl) (by first | k_is | rfl) (by first | k_is | rfl) (by first | k_is | rfl) (by first | k_is | rfl) (by first | k_is | rfl) (by first | k_is | rfl) (by first | k_is | rfl) (by first | k_is | rfl) (by first | k_is | rfl) (by first | k_is | rfl) (by first | k_is | rfl) (by first | k_is | rfl) (by first | k_is | rfl) (by first | k_is | rfl) (by first | k_is | rfl) (by first | k_is | rfl) (by first | k_is | rfl) (by first | k_is | rfl) (by first | k_is | rfl) (by first | k_is | rfl) (by first | k_is | rfl) (by first | k_is | rfl) (by first | k_is | rfl) (by first | k_is | rfl) (by first | k_is | rfl) (by first | k_is | rfl) (by first | k_is | rfl) (by first | k_is | rfl) (by first | k_is | rfl) (by first | k_is | rfl) (by first | k_is | rfl) (by first | k_is | rfl) (by first | k_is | rfl) (by first | k_is | rfl) (by first | k_is | rfl) (by first | k_is | rfl) (by first | k_is | rfl) (by first | k_is | rfl) (by first | k_is | rfl) (by first | k_is | rfl) (by first | k_is | rfl) (by first | k_is | rfl) (by first | k_is | rfl) (by first | k_is | rfl) (by first | k_is | rfl) (by first | k_is | rfl) (by first | k_is | rfl) (by first | k_is | rfl) (by first | k_is | rfl) (by first | k_is | rfl) (by first | k_is | rfl) (by first | k_is | rfl)
    obtain ⟨X⟩ := hX
    exact K18.law_fin KX G T X (by k_is) (by k_is) (by k_is) (by rfl) (by rfl) (by rfl) (by rfl) (by rfl) (by rfl) (by decide) (by first | k_is | rfl) (PySem.W.km_tabs_of Y _ (by first | decide | simp))

