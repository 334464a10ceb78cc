import PyProof.Rows.All
import Wide.All
import OpenK.AllK
import Wide.FinOn
import HandS.ForMost
import HandS.Walk
import HandS.Codes
import HandS.IsInst
import HandS.Style
import HandS.TupAny
import HandS.FStr
import HandS.CallLocal
import HandS.More
import HandS.Zip
import HandS.TryMany
import HandS.Exc
import HandS.ExcInit
import HandS.ExcIs
import HandS.ExcField
import HandS.HotCalls
import HandS.Lambda
import HandS.ClsMeth
import KE.KExcIs
import HandS.WordsExc
import HandS.Defaults
import HandS.EndOwn
import PySem.Challenge.RW_outgrow_k05_texts_that_are_no_plans
set_option Elab.async false
set_option linter.all false
set_option maxRecDepth 100000
set_option maxHeartbeats 4000000
namespace OG
open PySem PySem.Spec PyProof.Rows L2
open C8 (pss_cut pe_gc)

/-! ### heaps -/
theorem same_new {H : Hp} {p : Addr} {o : HO} (h : H p = none) : Same H (upd H p o) := fun b u e => by
  rw [upd_ne (ne_of_none e h)]
  exact e
/-- only the object at d may differ -/
def But (d : Addr) (H H' : Hp) : Prop := ∀ b, b ≠ d → H' b = H b
theorem But.refl (d : Addr) (H : Hp) : But d H H := fun _ _ => rfl
theorem But.trans {d : Addr} {H H1 H2 : Hp} (a : But d H H1) (b : But d H1 H2) : But d H H2 := fun x h => (b x h).trans (a x h)
theorem but_upd {d : Addr} {H : Hp} {o : HO} : But d H (upd H d o) := fun _ h => upd_ne h
/-- all that was tracked stands as it was, but for what M tells -/
def Sx (M : Addr → Prop) (H H' : Hp) : Prop := ∀ b u, ¬ M b → H b = some u → H' b = some u
theorem Sx.refl (M : Addr → Prop) (H : Hp) : Sx M H H := fun _ _ _ h => h
theorem Sx.trans {M : Addr → Prop} {H H1 H2 : Hp} (a : Sx M H H1) (b : Sx M H1 H2) : Sx M H H2 := fun c u n h => b c u n (a c u n h)
theorem Sx.of_same {M : Addr → Prop} {H H' : Hp} (a : Same H H') : Sx M H H' := fun b u _ h => a b u h
theorem Sx.of_but {M : Addr → Prop} {d : Addr} {H H' : Hp} (a : But d H H') (m : M d) : Sx M H H' := fun b u n h => by
  rw [a b (fun e => n (e ▸ m))]
  exact h
theorem Sx.mono {M N : Addr → Prop} {H H' : Hp} (a : Sx M H H') (h : ∀ b, M b → N b) : Sx N H H' := fun b u n e => a b u (fun m => n (h b m)) e
theorem Sx.upd_in {M : Addr → Prop} {H H' : Hp} {p : Addr} {o : HO} (a : Sx M H H') (m : M p) : Sx M H (upd H' p o) := fun b u n e => by
  have z : b ≠ p := fun z => n (by rw [z]; exact m)
  rw [upd_ne z]
  exact a b u n e
/-- what was not tracked ahead may be written -/
theorem Sx.upd_new {M : Addr → Prop} {H H' : Hp} {p : Addr} {o : HO} (a : Sx M H H') (h : H p = none) : Sx M H (upd H' p o) := fun b u n e => by
  rw [upd_ne (ne_of_none e h)]
  exact a b u n e
theorem Same.upd_new {H H' : Hp} {p : Addr} {o : HO} (a : Same H H') (h : H p = none) : Same H (upd H' p o) := fun b u e => by
  rw [upd_ne (ne_of_none e h)]
  exact a b u e
theorem but_none {d : Addr} {H H' : Hp} (a : But d H H') {p : Addr} (h : H' p = none) (hd : ∃ u, H' d = some u) : H p = none := by
  by_cases e : p = d
  · subst e
    obtain ⟨u, q⟩ := hd
    rw [q] at h
    cases h
  · rw [← a p e]
    exact h
theorem sz {n : Nat} (h : n ≤ 100000) : n ≤ sizeLine := Nat.le_trans h (by decide)
theorem szl {n : Nat} (h : n < 100000) : n < sizeLine := Nat.lt_of_lt_of_le h (by decide)

/-! ### texts -/
abbrev S (l : List Nat) : Str := ⟨l.toArray⟩
abbrev tl (x : Str) : List Nat := x.cps.toList
theorem S_tl (x : Str) : S (tl x) = x := by cases x; rfl
theorem len_tl (x : Str) : x.length = (tl x).length := by simp [Str.length, tl]
theorem len_S (l : List Nat) : (S l).length = l.length := by simp [Str.length, S]
theorem tl_S (l : List Nat) : tl (S l) = l := rfl

/-! ### the drawing -/
/-- the drawing's own list at d: the script's copy at L, a place, a rest, a seed -/
def Dr (H : Hp) (d L : Addr) : Prop := ∃ (ns : List Int) (i r s : Int), H d = some (.lst [.ref L, .int i, .int r, .int s]) ∧ H L = some (.lst (ns.map V.int)) ∧ 0 ≤ i ∧ 0 ≤ r ∧ 0 ≤ s ∧ s < 2147483647
theorem Dr.ne {H : Hp} {d L : Addr} (h : Dr H d L) : L ≠ d := by
  obtain ⟨ns, i, r, s, hd, hL, _⟩ := h
  refine ne_of hL hd fun z => ?_
  have z2 := HO.lst.inj z
  cases ns with
  | nil => cases z2
  | cons n r =>
    have z3 := (List.cons.inj z2).1
    cases z3
theorem Dr.some {H : Hp} {d L : Addr} (h : Dr H d L) : ∃ u, H d = some u := by
  obtain ⟨ns, i, r, s, hd, _⟩ := h
  exact ⟨_, hd⟩
theorem Dr.someL {H : Hp} {d L : Addr} (h : Dr H d L) : ∃ u, H L = Option.some u := by
  obtain ⟨ns, i, r, s, hd, hL, _⟩ := h
  exact ⟨_, hL⟩
theorem Dr.same {H H' : Hp} {d L : Addr} (h : Dr H d L) (a : Same H H') : Dr H' d L := by
  obtain ⟨ns, i, r, s, hd, hL, q⟩ := h
  exact ⟨ns, i, r, s, a _ _ hd, a _ _ hL, q⟩
theorem Dr.at {H H' : Hp} {d L : Addr} (h : Dr H d L) (a : H' d = H d) (b : H' L = H L) : Dr H' d L := by
  obtain ⟨ns, i, r, s, hd, hL, q⟩ := h
  exact ⟨ns, i, r, s, a.trans hd, b.trans hL, q⟩
theorem Dr.upd {H : Hp} {d L p : Addr} {o : HO} (h : Dr H d L) (n1 : p ≠ d) (n2 : p ≠ L) : Dr (upd H p o) d L := h.at (upd_ne n1.symm) (upd_ne n2.symm)
theorem Dr.new {H : Hp} {d L p : Addr} {o : HO} (h : Dr H d L) (n : H p = none) : Dr (L2.upd H p o) d L := h.same (same_new n)
theorem Dr.neNew {H : Hp} {d L p : Addr} (h : Dr H d L) (n : H p = none) : p ≠ d ∧ p ≠ L := by
  obtain ⟨u, q⟩ := h.some
  obtain ⟨u2, q2⟩ := h.someL
  exact ⟨(ne_of_none q n).symm, (ne_of_none q2 n).symm⟩
theorem dr_set {H : Hp} {d L : Addr} {ns : List Int} {i r s : Int} (hL : H L = some (.lst (ns.map V.int))) (ne : L ≠ d) (h1 : 0 ≤ i) (h2 : 0 ≤ r) (h3 : 0 ≤ s) (h4 : s < 2147483647) :
    Dr (upd H d (.lst [.ref L, .int i, .int r, .int s])) d L := ⟨ns, i, r, s, upd_same, by rw [upd_ne ne]; exact hL, h1, h2, h3, h4⟩
/-- _law_take(draw, sides) -/
def spTake : Sp := fun vs H Q _ => ∃ (d L : Addr) (k : Int), vs = [.ref d, .int k] ∧ Dr H d L ∧ 1 ≤ k ∧ k < 1073741824 ∧
  ∀ (g : Int) (H' : Hp), 0 ≤ g → g < k → Dr H' d L → But d H H' → Q (.int g) H'
/-- _law_begin(script) -/
def spBegin (K : PySem.W.Frag) : Sp := fun vs H Q _ => ∃ (a : Addr) (ns : List Int), vs = [.ref a] ∧ SqL K H a (ns.map V.int) ∧
  ∀ (d L : Addr) (H' : Hp), Same H H' → H d = none → H L = none → Dr H' d L → Q (.ref d) H'
/-- _law_pick(draw, row), row a text | a list of texts -/
def spPick (K : PySem.W.Frag) : Sp := fun vs H Q _ => ∃ (d L : Addr) (x : V) (n : Nat), vs = [.ref d, x] ∧ Dr H d L ∧ 0 < n ∧ n < 100000 ∧
  ((∃ z : Str, x = .str z ∧ z.length = n ∧ ∀ (c : Nat) (H' : Hp), c ∈ tl z → Dr H' d L → But d H H' → Q (.str ⟨#[c]⟩) H') ∨
   (∃ (a : Addr) (xs : List V), x = .ref a ∧ a ≠ d ∧ SqL K H a xs ∧ xs.length = n ∧ ∀ (y : V) (H' : Hp), y ∈ xs → Dr H' d L → But d H H' → Q y H'))
/-- what a SqL tells stays where its place is not written -/
theorem SqL.but {K : PySem.W.Frag} {H H' : Hp} {d a : Addr} {xs : List V} (h : SqL K H a xs) (b : But d H H') (n : a ≠ d) : SqL K H' a xs := by
  rcases h with (h | ⟨o, h⟩) | h
  · exact .inl (.inl (by rw [b a n]; exact h))
  · exact .inl (.inr ⟨o, by rw [b a n]; exact h⟩)
  · exact .inr h
theorem SqL.sx {K : PySem.W.Frag} {M : Addr → Prop} {H H' : Hp} {a : Addr} {xs : List V} (h : SqL K H a xs) (b : Sx M H H') (n : ¬ M a) : SqL K H' a xs := by
  rcases h with (h | ⟨o, h⟩) | h
  · exact .inl (.inl (b _ _ n h))
  · exact .inl (.inr ⟨o, b _ _ n h⟩)
  · exact .inr h

theorem mod_lt {a k : Int} (h : 1 ≤ k) : 0 ≤ a % k ∧ a % k < k := ⟨Int.emod_nonneg _ (by omega), Int.emod_lt_of_pos _ (by omega)⟩
theorem atI_lt {α : Type} {xs : List α} {g : Int} (h0 : 0 ≤ g) (h1 : g < (xs.length : Int)) : ∃ v, atI xs g = some v ∧ v ∈ xs := by
  have hk : g.toNat < xs.length := by omega
  have e : g = ((g.toNat : Nat) : Int) := by omega
  refine ⟨xs[g.toNat], ?_, List.getElem_mem hk⟩
  have q : atI xs ((g.toNat : Nat) : Int) = some xs[g.toNat] := atI_nat (List.getElem?_eq_getElem hk)
  rw [← e] at q
  exact q
theorem cut_len (xs : List V) (lo hi : Option Int) : (cutV xs lo hi).length ≤ xs.length := cutV_length xs lo hi
theorem cut_map (ns : List Int) (lo hi : Option Int) : ∃ ms : List Int, cutV (ns.map V.int) lo hi = ms.map V.int := by
  refine ⟨(ns.drop (HT.sIx ns.length 0 lo)).take (HT.sIx ns.length ns.length hi - HT.sIx ns.length 0 lo), ?_⟩
  unfold cutV
  rw [List.length_map, List.map_take, List.map_drop]
/-! ### a comprehension over a text's signs, its element of a plain value -/
theorem lc_str_val {z : Str} {g : TG} {te : TE} {vs : List Nat} {σ : L2.St} {H1 : Hp} {D : Addr} {Qd : Hp → Prop} (f : Nat → V) (i0 : Nat) (hg : g = gName i0) (hw : ∀ v, wipe ((wipe σ vs).set i0 v) vs = wipe σ vs) (hz : z.length < 100000) (hD : H1 D = none)
    (he : ∀ c ∈ tl z, ∀ (H2 : Hp) (Q : VK), Same H1 H2 → Q (f c) H2 → te ((wipe σ vs).set i0 (some (.str ⟨#[c]⟩))) H2 Q)
    (hd : ∀ H', Same H1 H' → H' D = some (.lst ((tl z).map f)) → Qd H') :
    ∃ W : Nat → Nat → Hp → Prop, (∃ m, W 0 m (upd H1 D (.lst []))) ∧ ∀ i m H, W i m H →
      ((Its z).stop i H ∧ Qd H) ∨ ((Its z).go i H ∧ ∃ Nx : Hp → Prop, (∀ H', Nx H' → ∃ m', m' < m ∧ W (i + 1) m' H') ∧ ∀ x H', (Its z).yld i H x H' → g x (wipe σ vs) H' fun σ2 H2 => wipe σ2 vs = wipe σ vs ∧ tYes σ2 H2 fun b H3 =>
        if b = true then te σ2 H3 fun y H4 => ∃ acc, H4 D = some (.lst acc) ∧ acc.length < sizeLine ∧ Nx (upd H4 D (.lst (acc ++ [y]))) else Nx H3) := by
  subst hg
  have el : z.cps.size = (tl z).length := by simp [tl]
  refine lc_it walk_str (fun i H' => Same H1 H' ∧ H' D = some (.lst (((tl z).take i).map f))) ⟨same_new hD, by rw [upd_same]; rfl⟩ (fun _ _ _ _ => trivial) (fun i x H H' hi hP hY => ?_) (fun H' hP => ?_)
  · obtain ⟨rfl, c, hc, rfl⟩ := hY
    obtain ⟨sm, hl⟩ := hP
    have hc2 : (tl z)[i]? = some c := by
      have q : z.cps.toList[i]? = z.cps[i]? := by simp
      exact q.trans hc
    refine ⟨hw _, ?_⟩
    dsimp only [tYes]
    rw [if_pos rfl]
    refine he c (List.mem_of_getElem? hc2) _ _ sm ?_
    refine ⟨_, hl, ?_, ?_, ?_⟩
    · rw [List.length_map, List.length_take]
      have := len_tl z
      exact szl (by omega)
    · exact Same.upd_new sm hD
    · rw [upd_same, List.take_add_one, hc2, List.map_append]
      rfl
  · obtain ⟨sm, hl⟩ := hP
    refine hd H' sm ?_
    rw [el, List.take_length] at hl
    exact hl
theorem yes_go {σ : L2.St} {H : Hp} {A B : Hp → Prop} (h : A H) : tYes σ H (fun b H3 => if b = true then A H3 else B H3) := h
theorem len_app (a b : Str) : (a ++ b).length = a.length + b.length := PySem.Str.length_append a b
theorem join1_len : ∀ cs : List Nat, (TL.joinL [] (cs.map fun c => [c])) = cs
  | [] => rfl
  | [c] => rfl
  | c :: e :: r => by
    have ih := join1_len (e :: r)
    show [c] ++ ([] ++ TL.joinL [] ((e :: r).map fun c => [c])) = c :: e :: r
    rw [ih]
    rfl
/-- ''.join of signs -/
theorem join_signs (cs : List Nat) : Txt.join "" (cs.map fun c => S [c]) = S cs := by
  have e := SX.join_S [] (cs.map fun c => [c])
  rw [join1_len, List.map_map] at e
  exact e
theorem sum_ones : ∀ cs : List Nat, ((cs.map fun c => S [c]).map (·.length)).sum = cs.length
  | [] => rfl
  | c :: r => by
    rw [List.map_cons, List.map_cons, List.sum_cons, sum_ones r, len_S, List.length_cons, List.length_cons]
    simp
    omega
theorem cutS_len (z : Str) (lo hi : Option Int) : (cutS z lo hi).length ≤ z.length := by
  unfold cutS
  rw [len_S, List.length_take, List.length_drop]
  have := len_tl z
  unfold tl at this
  omega
/-! ### rules with the written part by its name, for a comprehension's block -/
section
variable {X : Cx} {K : PySem.W.Frag}
theorem ix_listK (h : X.K = K) : IxR X (rIxL K) := h ▸ ix_list
theorem ix_tupK (h : X.K = K) : IxR X (rIxT K) := h ▸ ix_tup
theorem ix_seqK (h : X.K = K) : IxR X (rIx K) := h ▸ ix_seq
theorem op_in_seqK (h : X.K = K) : OpR X (compareOp .In) (rIn K false) := h ▸ op_in_seq
theorem op_notIn_seqK (h : X.K = K) : OpR X (compareOp .NotIn) (rIn K true) := h ▸ op_notIn_seq
theorem op_eqDK (h : X.K = K) (hu : X.A.units + 64 < cLine) : OpR X (compareOp .Eq) (rEqD K) := h ▸ op_eqD hu
theorem op_neDK (h : X.K = K) (hu : X.A.units + 64 < cLine) : OpR X (compareOp .NotEq) (rNeD K) := h ▸ op_neD hu
theorem sl_listK (h : X.K = K) : SlR X (rSlL K) := h ▸ sl_list
theorem call_len_seqK (h : X.K = K) : CallR X (.builtin "len") (fun xs H Q => ∃ p ys, xs = [.ref p] ∧ (SqL K H p ys ∨ SqT K H p ys) ∧ Q (.int ys.length) H) := by
  subst h
  exact call_len_seq
end
end OG

set_option Elab.async false
set_option linter.all false
set_option maxRecDepth 100000
set_option maxHeartbeats 4000000
namespace OG
open PySem PySem.Spec PyProof.Rows L2
/-! ### text * number -/
def rRepS : R2 := fun x y H Q => ∃ (z : Str) (k : Int), x = .str z ∧ y = .int k ∧ -(2 ^ 62) ≤ k ∧ k < 2 ^ 62 ∧ z.length * k.toNat ≤ 100000 ∧ Q (.str (S (List.replicate k.toNat (tl z)).flatten)) H
theorem fold_rep (a : Array Nat) : ∀ (k : Nat) (acc : Array Nat), (List.foldl (fun x y => x ++ y) acc (List.replicate k a)) = acc ++ (List.replicate k a.toList).flatten.toArray
  | 0, acc => by simp
  | k + 1, acc => by
    rw [List.replicate_succ, List.foldl_cons, fold_rep a k (acc ++ a), List.replicate_succ, List.flatten_cons, Array.append_assoc]
    congr 1
    apply Array.ext'
    simp
theorem op_repS {X : Cx} : OpR X (binaryOp .Mult) rRepS := by
  intro pins s σ H x y v u Q I rx ry h
  obtain ⟨z, k, rfl, rfl, h1, h2, hz, q⟩ := h
  obtain ⟨t, rfl⟩ := rx
  obtain ⟨t', rfl⟩ := ry
  refine PySem.P.mul_str ?_ (fun a b => ?_) (fun a b => ?_) ?_
  · rw [decide_eq_false (by omega), decide_eq_false (by omega)]; rfl
  · have hk : 0 < k := by omega
    have e : ((z.length * k.toNat : Nat) : Int) ≤ 100000 := Int.ofNat_le.mpr hz
    have e2 : ((z.length * k.toNat : Nat) : Int) = (z.length : Int) * k := by
      rw [Int.natCast_mul, Int.toNat_of_nonneg (by omega)]
    intro hc
    have h3 : (z.length : Int) ≤ (2 ^ 63 - 1) / k := by
      rw [Int.le_ediv_iff_mul_le hk]
      rw [← e2]
      omega
    omega
  · unfold PySem.Builtin.Str.tooLong
    exact decide_eq_false (Nat.not_lt.mpr (sz hz))
  · by_cases c1 : k < 1
    · rw [if_pos c1]
      have e : k.toNat = 0 := by omega
      rw [e] at q
      exact ⟨by decide, .str Str.empty, H, I.tok _, ⟨_, rfl⟩, q⟩
    · rw [if_neg c1]
      by_cases c2 : (k == 1 || z.length == 0) = true
      · rw [if_pos c2]
        have e : S (List.replicate k.toNat (tl z)).flatten = z := by
          rcases Bool.or_eq_true_iff.mp c2 with c3 | c3
          · have e1 : k = 1 := by simpa using c3
            rw [e1]
            show S ((tl z) ++ []) = z
            rw [List.append_nil, S_tl]
          · have e1 : z.length = 0 := by simpa using c3
            have e2 : tl z = [] := List.eq_nil_of_length_eq_zero (by rw [← len_tl]; exact e1)
            have e3 : ∀ n : Nat, (List.replicate n ([] : List Nat)).flatten = [] := fun n => by
              induction n with
              | zero => rfl
              | succ n ih => rw [List.replicate_succ, List.flatten_cons, ih]; rfl
            rw [e2, e3, ← e2, S_tl]
        rw [e] at q
        exact ⟨.str z, H, I, ⟨_, rfl⟩, q⟩
      · rw [if_neg c2]
        have e : (⟨(List.replicate k.toNat z.cps).foldl (· ++ ·) #[]⟩ : Str) = S (List.replicate k.toNat (tl z)).flatten := by
          have := fold_rep z.cps k.toNat #[]
          rw [this]
          simp [S, tl]
        rw [e]
        refine ⟨?_, .str _, H, I.tok _, ⟨_, rfl⟩, q⟩
        have : (S (List.replicate k.toNat (tl z)).flatten).length ≤ 100000 := by
          rw [len_S, List.length_flatten]
          rw [List.map_replicate, List.sum_replicate_nat, Nat.mul_comm]
          rw [← len_tl]
          exact hz
        first
          | exact sz this
          | (unfold PySem.Builtin.Str.tooLong; exact decide_eq_false (Nat.not_lt.mpr (sz this)))
          | (show _ = _; unfold PySem.Builtin.Str.tooLong; exact decide_eq_false (Nat.not_lt.mpr (sz this)))
end OG

set_option Elab.async false
set_option linter.all false
set_option maxRecDepth 100000
set_option maxHeartbeats 4000000
namespace OG
open PySem PySem.Spec PyProof.Rows L2

/-! ### data of tuples -/
inductive D where
  | non
  | bl (b : Bool)
  | int (n : Int)
  | str (z : Str)
  | tup (xs : List D)
mutual
/-- v stands for the datum -/
def Rp (H : Hp) : V → D → Prop
  | v, .non => v = .non
  | v, .bl b => v = .bl b
  | v, .int n => v = .int n
  | v, .str z => v = .str z
  | v, .tup xs => ∃ (a : Addr) (vs : List V), v = .ref a ∧ H a = some (.tup vs) ∧ RpL H vs xs
def RpL (H : Hp) : List V → List D → Prop
  | vs, [] => vs = []
  | vs, x :: xs => ∃ (v : V) (r : List V), vs = v :: r ∧ Rp H v x ∧ RpL H r xs
end
/-- tuples stay -/
def Imm (H H' : Hp) : Prop := ∀ b xs, H b = some (.tup xs) → H' b = some (.tup xs)
theorem Imm.refl (H : Hp) : Imm H H := fun _ _ h => h
theorem Imm.trans {H H1 H2 : Hp} (a : Imm H H1) (b : Imm H1 H2) : Imm H H2 := fun c xs h => b c xs (a c xs h)
theorem Imm.same {H H' : Hp} (a : Same H H') : Imm H H' := fun b xs h => a b _ h
theorem Imm.upd {H H' : Hp} {p : Addr} {o : HO} (a : Imm H H') (n : ∀ xs, H p ≠ some (.tup xs)) : Imm H (upd H' p o) := fun b xs h => by
  have e : b ≠ p := fun z => n xs (by rw [← z]; exact h)
  rw [upd_ne e]
  exact a b xs h
theorem Imm.but {H H' : Hp} {d : Addr} {l : List V} (a : But d H H') (h : H d = some (.lst l)) : Imm H H' := fun b xs e => by
  have n : b ≠ d := fun z => by
    rw [z, h] at e
    cases e
  rw [a b n]
  exact e
theorem Dr.imm {H H' : Hp} {d L : Addr} (h : Dr H d L) (a : But d H H') : Imm H H' := by
  obtain ⟨ns, i, r, s, hd, _⟩ := h
  exact Imm.but a hd
mutual
theorem Rp.imm {H H' : Hp} (m : Imm H H') : ∀ (x : D) (v : V), Rp H v x → Rp H' v x
  | .non, _, h => h
  | .bl _, _, h => h
  | .int _, _, h => h
  | .str _, _, h => h
  | .tup xs, _, h => by
    obtain ⟨a, vs, e, q, r⟩ := h
    exact ⟨a, vs, e, m _ _ q, RpL.imm m xs vs r⟩
theorem RpL.imm {H H' : Hp} (m : Imm H H') : ∀ (xs : List D) (vs : List V), RpL H vs xs → RpL H' vs xs
  | [], _, h => h
  | x :: xs, _, h => by
    obtain ⟨v, r, e, q, t⟩ := h
    exact ⟨v, r, e, Rp.imm m x v q, RpL.imm m xs r t⟩
end
theorem Rp.to {H H' : Hp} {x : D} {v : V} (h : Rp H v x) (m : Imm H H') : Rp H' v x := Rp.imm m x v h
theorem RpL.to {H H' : Hp} {xs : List D} {vs : List V} (h : RpL H vs xs) (m : Imm H H') : RpL H' vs xs := RpL.imm m xs vs h
theorem RpL.length {H : Hp} : ∀ {xs : List D} {vs : List V}, RpL H vs xs → vs.length = xs.length
  | [], _, h => by rw [show _ = [] from h]; rfl
  | x :: xs, _, h => by
    obtain ⟨v, r, e, _, t⟩ := h
    rw [e, List.length_cons, List.length_cons, RpL.length t]
theorem RpL.get {H : Hp} : ∀ {xs : List D} {vs : List V} {i : Nat} {v : V}, RpL H vs xs → vs[i]? = some v → ∃ x, xs[i]? = some x ∧ Rp H v x
  | [], _, i, v, h, g => by
    rw [show _ = [] from h] at g
    simp at g
  | x :: xs, _, 0, v, h, g => by
    obtain ⟨u, r, e, q, t⟩ := h
    rw [e] at g
    have : u = v := Option.some.inj g
    exact ⟨x, rfl, this ▸ q⟩
  | x :: xs, _, i + 1, v, h, g => by
    obtain ⟨u, r, e, q, t⟩ := h
    rw [e] at g
    exact RpL.get (xs := xs) (i := i) t g
theorem RpL.append {H : Hp} : ∀ {xs ys : List D} {vs ws : List V}, RpL H vs xs → RpL H ws ys → RpL H (vs ++ ws) (xs ++ ys)
  | [], _, _, _, h, k => by rw [show _ = [] from h]; exact k
  | x :: xs, ys, _, ws, h, k => by
    obtain ⟨u, r, e, q, t⟩ := h
    rw [e]
    exact ⟨u, r ++ ws, rfl, q, RpL.append t k⟩
theorem RpL.take {H : Hp} : ∀ {xs : List D} {vs : List V} (n : Nat), RpL H vs xs → RpL H (vs.take n) (xs.take n)
  | _, _, 0, _ => rfl
  | [], _, n + 1, h => by rw [show _ = [] from h]; rfl
  | x :: xs, _, n + 1, h => by
    obtain ⟨u, r, e, q, t⟩ := h
    rw [e]
    exact ⟨u, r.take n, rfl, q, RpL.take n t⟩
theorem RpL.drop {H : Hp} : ∀ {xs : List D} {vs : List V} (n : Nat), RpL H vs xs → RpL H (vs.drop n) (xs.drop n)
  | _, _, 0, h => h
  | [], _, n + 1, h => by rw [show _ = [] from h]; rfl
  | x :: xs, _, n + 1, h => by
    obtain ⟨u, r, e, q, t⟩ := h
    rw [e]
    exact RpL.drop n t
theorem rpl_nil {H : Hp} : RpL H [] [] := rfl
theorem rpl_cons {H : Hp} {v : V} {vs : List V} {x : D} {xs : List D} (h : Rp H v x) (t : RpL H vs xs) : RpL H (v :: vs) (x :: xs) := ⟨v, vs, rfl, h, t⟩
theorem rp_tup {H : Hp} {a : Addr} {vs : List V} {xs : List D} (h : H a = some (.tup vs)) (t : RpL H vs xs) : Rp H (.ref a) (.tup xs) := ⟨a, vs, rfl, h, t⟩
theorem rp_t2 {H : Hp} {v : V} {x y : D} (h : Rp H v (.tup [x, y])) : ∃ a v1 v2, v = .ref a ∧ H a = some (.tup [v1, v2]) ∧ Rp H v1 x ∧ Rp H v2 y := by
  obtain ⟨a, vs, e, q, v1, r1, rfl, h1, v2, r2, rfl, h2, rfl⟩ := h
  exact ⟨a, v1, v2, e, q, h1, h2⟩
theorem rp_t3 {H : Hp} {v : V} {x y z : D} (h : Rp H v (.tup [x, y, z])) : ∃ a v1 v2 v3, v = .ref a ∧ H a = some (.tup [v1, v2, v3]) ∧ Rp H v1 x ∧ Rp H v2 y ∧ Rp H v3 z := by
  obtain ⟨a, vs, e, q, v1, r1, rfl, h1, v2, r2, rfl, h2, v3, r3, rfl, h3, rfl⟩ := h
  exact ⟨a, v1, v2, v3, e, q, h1, h2, h3⟩
theorem rp_t5 {H : Hp} {v : V} {x y z u w : D} (h : Rp H v (.tup [x, y, z, u, w])) : ∃ a v1 v2 v3 v4 v5, v = .ref a ∧ H a = some (.tup [v1, v2, v3, v4, v5]) ∧ Rp H v1 x ∧ Rp H v2 y ∧ Rp H v3 z ∧ Rp H v4 u ∧ Rp H v5 w := by
  obtain ⟨a, vs, e, q, v1, r1, rfl, h1, v2, r2, rfl, h2, v3, r3, rfl, h3, v4, r4, rfl, h4, v5, r5, rfl, h5, rfl⟩ := h
  exact ⟨a, v1, v2, v3, v4, v5, e, q, h1, h2, h3, h4, h5⟩

/-! ### names -/
def kept : List Str := ["step", "for", "from", "to", "if", "else", "double", "call", "with", "again", "on", "halves", "thirds", "less", "n"]
theorem kept_split : (Txt.split "step for from to if else double call with again on halves thirds less n" " ") = kept := by decide +kernel
def spKept : Sp := fun vs H Q _ => vs = [] ∧ ∀ (p : Addr) (H' : Hp), H p = none → H' = upd H p (.lst (kept.map V.str)) → Q (.ref p) H'
def abc : List Nat := tl "abcdefghijklmnopqrstuvwxyz"
/-- whether a text is a name -/
def nameB (z : Str) : Bool := (!inV (.str z) (kept.map V.str) && (decide ((1 : Int) ≤ (z.length : Int)) && decide ((z.length : Int) ≤ 8))) && ((tl z).map (fun c => decide (c ∈ tl "abcdefghijklmnopqrstuvwxyz"))).all id
def spName : Sp := fun vs H Q _ => ∃ z : Str, vs = [.str z] ∧ z.length < 100000 ∧ ∀ H', Same H H' → Q (.bl (nameB z)) H'
theorem inV_str (z : Str) : ∀ ys : List Str, inV (.str z) (ys.map V.str) = decide (z ∈ ys)
  | [] => rfl
  | y :: r => by
    have ih := inV_str z r
    unfold inV at ih ⊢
    rw [List.map_cons, List.any_cons, ih]
    show ((y == z) || decide (z ∈ r)) = decide (z ∈ y :: r)
    by_cases h : y = z
    · subst h
      simp
    · have h2 : (y == z) = false := by simpa using h
      have h3 : ¬ z = y := fun e => h e.symm
      rw [h2, Bool.false_or]
      by_cases h4 : z ∈ r
      · rw [decide_eq_true h4, decide_eq_true (List.mem_cons_of_mem _ h4)]
      · rw [decide_eq_false h4, decide_eq_false (fun h5 => (List.mem_cons.mp h5).elim h3 h4)]
theorem name_of {cs : List Nat} (h0 : 1 ≤ cs.length) (h8 : cs.length ≤ 8) (hk : S cs ∉ kept) (hc : ∀ c ∈ cs, c ∈ abc) : nameB (S cs) = true := by
  unfold nameB
  rw [inV_str, decide_eq_false hk, len_S]
  rw [decide_eq_true (by omega), decide_eq_true (by omega)]
  have : ((tl (S cs)).map (fun c => decide (c ∈ tl "abcdefghijklmnopqrstuvwxyz"))).all id = true := by
    rw [List.all_eq_true]
    intro b hb
    obtain ⟨c, hc2, rfl⟩ := List.mem_map.mp hb
    exact decide_eq_true (hc c hc2)
  rw [this]
  rfl
theorem name_len {z : Str} (h : nameB z = true) : 1 ≤ z.length ∧ z.length ≤ 8 := by
  unfold nameB at h
  simp only [Bool.and_eq_true, decide_eq_true_eq] at h
  omega
theorem name_abc {z : Str} (h : nameB z = true) : ∀ c ∈ tl z, c ∈ abc := by
  unfold nameB at h
  have h2 := (Bool.and_eq_true_iff.mp h).2
  rw [List.all_eq_true] at h2
  intro c hc
  exact of_decide_eq_true (h2 _ (List.mem_map.mpr ⟨c, hc, rfl⟩))
theorem name_kept {z : Str} (h : nameB z = true) : z ∉ kept := by
  unfold nameB at h
  rw [inV_str] at h
  intro hk
  rw [decide_eq_true hk] at h
  cases h
theorem name_two : ∀ c ∈ abc, nameB (S [c, c]) = true := by
  have h : abc.all (fun c => nameB (S [c, c])) = true := by decide +kernel
  exact fun c hc => List.all_eq_true.mp h c hc

/-! ### plans -/
inductive Thing where
  | step (k : Int)
  | loop (x : Str) (a b : Str × Int) (body : List Thing)
  | test (a b : Str × Int) (x y : List Thing)
  | twice (body : List Thing)
  | call (x : Str) (e : Str × Int)
  | again (k : Int) (w : Str)
def encE (e : Str × Int) : D := .tup [.str e.1, .int e.2]
mutual
def enc : Thing → D
  | .step k => .tup [.str "step", .int k]
  | .loop x a b body => .tup [.str "for", .str x, encE a, encE b, .tup (encs body)]
  | .test a b x y => .tup [.str "if", encE a, encE b, .tup (encs x), .tup (encs y)]
  | .twice b => .tup [.str "double", .tup (encs b)]
  | .call x e => .tup [.str "call", .str x, encE e]
  | .again k w => .tup [.str "again", .int k, .str w]
def encs : List Thing → List D
  | [] => []
  | t :: r => enc t :: encs r
end
theorem encs_map : ∀ ts : List Thing, encs ts = ts.map enc
  | [] => rfl
  | t :: r => by
    show enc t :: encs r = enc t :: r.map enc
    rw [encs_map r]
theorem encs_append (a b : List Thing) : encs (a ++ b) = encs a ++ encs b := by rw [encs_map, encs_map, encs_map, List.map_append]
theorem encs_length (ts : List Thing) : (encs ts).length = ts.length := by rw [encs_map, List.length_map]
/-- an end that may stand where the names sc may -/
def EndOk (sc : List Str) (e : Str × Int) : Prop := (e.1 = "" ∧ 0 ≤ e.2 ∧ e.2 ≤ 99) ∨ (e.1 ∈ sc ∧ -99 ≤ e.2 ∧ e.2 ≤ 99)
def ScOk (sc : List Str) : Prop := ∀ x ∈ sc, x = "n" ∨ nameB x = true
def AgOk (k : Int) (w : Str) : Prop := 1 ≤ k ∧ k ≤ 9 ∧ (w = "halves" ∨ w = "thirds" ∨ w = "less")
mutual
/-- a thing with at most n brackets within one another, calling only what C tells; again only where A does -/
def TOk (C : Str → Prop) (A : Prop) : List Str → Nat → Thing → Prop
  | _, _, .step k => 0 ≤ k ∧ k ≤ 99
  | sc, n, .loop x a b body => nameB x = true ∧ x ∉ sc ∧ EndOk sc a ∧ EndOk sc b ∧ body ≠ [] ∧ ∃ m, n = m + 1 ∧ TsOk C A (sc ++ [x]) m body
  | sc, n, .test a b x y => EndOk sc a ∧ EndOk sc b ∧ x ≠ [] ∧ ∃ m, n = m + 1 ∧ TsOk C A sc m x ∧ TsOk C A sc m y
  | sc, n, .twice b => b ≠ [] ∧ ∃ m, n = m + 1 ∧ TsOk C A sc m b
  | sc, _, .call x e => nameB x = true ∧ C x ∧ EndOk sc e
  | _, _, .again k w => A ∧ AgOk k w
def TsOk (C : Str → Prop) (A : Prop) : List Str → Nat → List Thing → Prop
  | _, _, [] => True
  | sc, n, t :: r => TOk C A sc n t ∧ TsOk C A sc n r
end
theorem tsok_iff {C : Str → Prop} {A : Prop} {sc : List Str} {n : Nat} : ∀ ts : List Thing, TsOk C A sc n ts ↔ ∀ t ∈ ts, TOk C A sc n t
  | [] => ⟨fun _ _ h => (by cases h), fun _ => trivial⟩
  | t :: r => by
    show (TOk C A sc n t ∧ TsOk C A sc n r) ↔ _
    rw [tsok_iff r]
    constructor
    · rintro ⟨h1, h2⟩ u hu
      rcases List.mem_cons.mp hu with rfl | hu
      · exact h1
      · exact h2 u hu
    · intro h
      exact ⟨h t List.mem_cons_self, fun u hu => h u (List.mem_cons_of_mem _ hu)⟩
mutual
def cntT : Thing → Nat
  | .step _ => 1
  | .loop _ _ _ b => 1 + cntB b
  | .test _ _ x y => 1 + cntB x + cntB y
  | .twice b => 1 + cntB b
  | .call _ _ => 1
  | .again _ _ => 1
def cntB : List Thing → Nat
  | [] => 0
  | t :: r => cntT t + cntB r
end
theorem cntB_append : ∀ a b : List Thing, cntB (a ++ b) = cntB a + cntB b
  | [], b => by show cntB b = 0 + cntB b; omega
  | t :: r, b => by
    show cntT t + cntB (r ++ b) = cntT t + cntB r + cntB b
    rw [cntB_append r b]
    omega

/-! ### a plan's text -/
def numL (i : Int) : List Nat := tl (toString i)
def endL (e : Str × Int) : List Nat :=
  if e.1 = "" then numL e.2 else if e.2 = 0 then tl e.1 else if 0 < e.2 then tl e.1 ++ tl " + " ++ numL e.2 else tl e.1 ++ tl " - " ++ numL (-e.2)
mutual
def thingL : Thing → List Nat
  | .step k => tl "step " ++ numL k
  | .loop x a b body => tl "for " ++ tl x ++ tl " from " ++ endL a ++ tl " to " ++ endL b ++ tl " (" ++ TL.joinL (tl "; ") (thingsL body) ++ tl ")"
  | .test a b x y => tl "if " ++ endL a ++ tl " <= " ++ endL b ++ tl " (" ++ TL.joinL (tl "; ") (thingsL x) ++ tl ")" ++ (match y with
    | [] => []
    | t :: r => tl " else (" ++ TL.joinL (tl "; ") (thingsL (t :: r)) ++ tl ")")
  | .twice b => tl "double (" ++ TL.joinL (tl "; ") (thingsL b) ++ tl ")"
  | .call x e => tl "call " ++ tl x ++ tl " with " ++ endL e
  | .again k w => tl "again " ++ numL k ++ tl " on " ++ tl w
def thingsL : List Thing → List (List Nat)
  | [] => []
  | t :: r => thingL t :: thingsL r
end
def planL (ts : List Thing) : List Nat := TL.joinL (tl "; ") (thingsL ts)
theorem thingsL_map : ∀ ts : List Thing, thingsL ts = ts.map thingL
  | [] => rfl
  | t :: r => by
    show thingL t :: thingsL r = thingL t :: r.map thingL
    rw [thingsL_map r]
theorem str_ext {a b : Str} (h : tl a = tl b) : a = b := by rw [← S_tl a, ← S_tl b, h]
theorem tl_app (a b : Str) : tl (a ++ b) = tl a ++ tl b := TL.tl_append a b
theorem tl_empty : tl Str.empty = [] := rfl
/-! sizes -/
theorem num_small {i : Int} (h0 : -99 ≤ i) (h1 : i ≤ 99) : (numL i).length ≤ 3 ∧ i.natAbs.log2 < 1920 := by
  have e : ∀ n : Nat, n < 199 → (numL ((n : Int) - 99)).length ≤ 3 ∧ ((n : Int) - 99).natAbs.log2 < 1920 := by
    have h : (List.range 199).all (fun n => decide ((numL ((n : Int) - 99)).length ≤ 3) && decide (((n : Int) - 99).natAbs.log2 < 1920)) = true := by decide +kernel
    intro n hn
    have := List.all_eq_true.mp h n (List.mem_range.mpr hn)
    simpa only [Bool.and_eq_true, decide_eq_true_eq] using this
  have q := e (i + 99).toNat (by omega)
  have e2 : (((i + 99).toNat : Nat) : Int) - 99 = i := by omega
  rw [e2] at q
  exact q
theorem end_small {sc : List Str} {e : Str × Int} (hs : ScOk sc) (h : EndOk sc e) : (endL e).length ≤ 14 ∧ e.1.length ≤ 8 ∧ -99 ≤ e.2 ∧ e.2 ≤ 99 := by
  have hl : e.1.length ≤ 8 ∧ -99 ≤ e.2 ∧ e.2 ≤ 99 := by
    rcases h with ⟨h1, h2, h3⟩ | ⟨h1, h2, h3⟩
    · rw [h1]
      exact ⟨by decide +kernel, by omega, h3⟩
    · rcases hs _ h1 with h4 | h4
      · rw [h4]
        exact ⟨by decide +kernel, h2, h3⟩
      · exact ⟨(name_len h4).2, h2, h3⟩
  refine ⟨?_, hl⟩
  have n1 := (num_small hl.2.1 hl.2.2).1
  have n2 := (num_small (i := -e.2) (by omega) (by omega)).1
  have l1 := len_tl e.1
  have p1 : (tl " + ").length = 3 := by decide +kernel
  have p2 : (tl " - ").length = 3 := by decide +kernel
  unfold endL
  split
  · omega
  · split
    · omega
    · split
      · rw [List.length_append, List.length_append]
        omega
      · rw [List.length_append, List.length_append]
        omega
end OG

set_option Elab.async false
set_option linter.all false
set_option maxRecDepth 100000
set_option maxHeartbeats 4000000
namespace OG
open PySem PySem.Spec PyProof.Rows L2
/-! ### sizes of texts -/
theorem joinL_len (s : List Nat) : ∀ ls : List (List Nat), (TL.joinL s ls).length ≤ (ls.map (fun l => l.length + s.length)).sum
  | [] => Nat.le_refl _
  | [p] => by
    show p.length ≤ (p.length + s.length) + 0
    omega
  | p :: q :: r => by
    have ih := joinL_len s (q :: r)
    show (p ++ (s ++ TL.joinL s (q :: r))).length ≤ (p.length + s.length) + ((q :: r).map (fun l => l.length + s.length)).sum
    rw [List.length_append, List.length_append]
    omega
theorem scOk_snoc {sc : List Str} {x : Str} (h : ScOk sc) (n : nameB x = true) : ScOk (sc ++ [x]) := fun y hy => by
  rcases List.mem_append.mp hy with h1 | h1
  · exact h y h1
  · rw [List.mem_singleton.mp h1]
    exact .inr n
mutual
theorem thing_size {C : Str → Prop} {A : Prop} : ∀ (t : Thing) (sc : List Str) (n : Nat), TOk C A sc n t → ScOk sc → (thingL t).length + 2 ≤ 80 * cntT t
  | .step k, sc, n, h, hs => by
    have e := (num_small (i := k) (by have := h.1; omega) h.2).1
    have c : (tl "step ").length = 5 := by decide +kernel
    show (tl "step " ++ numL k).length + 2 ≤ 80 * 1
    rw [List.length_append]
    omega
  | .loop x a b body, sc, n, h, hs => by
    obtain ⟨h1, h2, h3, h4, h5, m, rfl, h6⟩ := h
    have hn := name_len h1
    have e1 := (end_small hs h3).1
    have e2 := (end_small hs h4).1
    have ih := things_size body _ _ h6 (scOk_snoc hs h1)
    have j := joinL_len (tl "; ") (thingsL body)
    have c0 : (tl "; ").length = 2 := by decide +kernel
    have c1 : (tl "for ").length = 4 := by decide +kernel
    have c2 : (tl " from ").length = 6 := by decide +kernel
    have c3 : (tl " to ").length = 4 := by decide +kernel
    have c4 : (tl " (").length = 2 := by decide +kernel
    have c5 : (tl ")").length = 1 := by decide +kernel
    have l := len_tl x
    rw [c0] at j
    show (tl "for " ++ tl x ++ tl " from " ++ endL a ++ tl " to " ++ endL b ++ tl " (" ++ TL.joinL (tl "; ") (thingsL body) ++ tl ")").length + 2 ≤ 80 * (1 + cntB body)
    simp only [List.length_append]
    omega
  | .test a b x y, sc, n, h, hs => by
    obtain ⟨h3, h4, h5, m, rfl, h6, h7⟩ := h
    have e1 := (end_small hs h3).1
    have e2 := (end_small hs h4).1
    have ih := things_size x _ _ h6 hs
    have j := joinL_len (tl "; ") (thingsL x)
    have ih2 := things_size y _ _ h7 hs
    have j2 := joinL_len (tl "; ") (thingsL y)
    have c0 : (tl "; ").length = 2 := by decide +kernel
    have c1 : (tl "if ").length = 3 := by decide +kernel
    have c2 : (tl " <= ").length = 4 := by decide +kernel
    have c4 : (tl " (").length = 2 := by decide +kernel
    have c5 : (tl ")").length = 1 := by decide +kernel
    have c6 : (tl " else (").length = 7 := by decide +kernel
    rw [c0] at j j2
    cases y with
    | nil =>
      show (tl "if " ++ endL a ++ tl " <= " ++ endL b ++ tl " (" ++ TL.joinL (tl "; ") (thingsL x) ++ tl ")" ++ []).length + 2 ≤ 80 * (1 + cntB x + 0)
      simp only [List.length_append, List.length_nil]
      omega
    | cons t r =>
      show (tl "if " ++ endL a ++ tl " <= " ++ endL b ++ tl " (" ++ TL.joinL (tl "; ") (thingsL x) ++ tl ")" ++ (tl " else (" ++ TL.joinL (tl "; ") (thingsL (t :: r)) ++ tl ")")).length + 2 ≤ 80 * (1 + cntB x + cntB (t :: r))
      simp only [List.length_append]
      omega
  | .twice b, sc, n, h, hs => by
    obtain ⟨h5, m, rfl, h6⟩ := h
    have ih := things_size b _ _ h6 hs
    have j := joinL_len (tl "; ") (thingsL b)
    have c0 : (tl "; ").length = 2 := by decide +kernel
    have c1 : (tl "double (").length = 8 := by decide +kernel
    have c5 : (tl ")").length = 1 := by decide +kernel
    rw [c0] at j
    show (tl "double (" ++ TL.joinL (tl "; ") (thingsL b) ++ tl ")").length + 2 ≤ 80 * (1 + cntB b)
    simp only [List.length_append]
    omega
  | .call x e, sc, n, h, hs => by
    have e1 := (end_small hs h.2.2).1
    have hn := name_len h.1
    have c1 : (tl "call ").length = 5 := by decide +kernel
    have c2 : (tl " with ").length = 6 := by decide +kernel
    have l := len_tl x
    show (tl "call " ++ tl x ++ tl " with " ++ endL e).length + 2 ≤ 80 * 1
    simp only [List.length_append]
    omega
  | .again k w, sc, n, h, hs => by
    obtain ⟨_, h1, h2, h3⟩ := h
    have e := (num_small (i := k) (by omega) (by omega)).1
    have c1 : (tl "again ").length = 6 := by decide +kernel
    have c2 : (tl " on ").length = 4 := by decide +kernel
    have c3 : (tl w).length ≤ 6 := by
      rcases h3 with rfl | rfl | rfl
      · decide +kernel
      · decide +kernel
      · decide +kernel
    show (tl "again " ++ numL k ++ tl " on " ++ tl w).length + 2 ≤ 80 * 1
    simp only [List.length_append]
    omega
theorem things_size {C : Str → Prop} {A : Prop} : ∀ (ts : List Thing) (sc : List Str) (n : Nat), TsOk C A sc n ts → ScOk sc → ((thingsL ts).map (fun l => l.length + 2)).sum ≤ 80 * cntB ts
  | [], _, _, _, _ => Nat.le_refl _
  | t :: r, sc, n, h, hs => by
    have h1 := thing_size t sc n h.1 hs
    have h2 := things_size r sc n h.2 hs
    show ((thingL t).length + 2) + ((thingsL r).map (fun l => l.length + 2)).sum ≤ 80 * (cntT t + cntB r)
    omega
end
theorem plan_size {C : Str → Prop} {A : Prop} {ts : List Thing} {sc : List Str} {n : Nat} (h : TsOk C A sc n ts) (hs : ScOk sc) : (planL ts).length ≤ 80 * cntB ts := by
  have j := joinL_len (tl "; ") (thingsL ts)
  have c0 : (tl "; ").length = 2 := by decide +kernel
  rw [c0] at j
  exact Nat.le_trans j (things_size ts sc n h hs)
theorem cnt_pos : ∀ t : Thing, 1 ≤ cntT t
  | .step _ => Nat.le_refl _
  | .loop _ _ _ b => Nat.le_add_right _ _
  | .test _ _ x y => by show 1 ≤ 1 + cntB x + cntB y; omega
  | .twice b => Nat.le_add_right _ _
  | .call _ _ => Nat.le_refl _
  | .again _ _ => Nat.le_refl _
theorem cnt_len : ∀ ts : List Thing, ts.length ≤ cntB ts
  | [] => Nat.le_refl _
  | t :: r => by
    have h1 := cnt_pos t
    have h2 := cnt_len r
    show r.length + 1 ≤ cntT t + cntB r
    omega
theorem cnt_mem {t : Thing} : ∀ {ts : List Thing}, t ∈ ts → cntT t ≤ cntB ts
  | [], h => by cases h
  | u :: r, h => by
    show cntT t ≤ cntT u + cntB r
    rcases List.mem_cons.mp h with rfl | h
    · omega
    · have := cnt_mem h
      omega
/-! ### a comprehension over a tuple, its element a call that leaves all as it was -/
theorem lc_tup_map {K : PySem.W.Frag} {a : Addr} {xs : List V} {g : TG} {te : TE} {vs : List Nat} {σ : L2.St} {H1 : Hp} {D : Addr} {Qd : Hp → Prop} (ys : List V) (i0 : Nat) (hg : g = gName i0) (hw : ∀ v, wipe ((wipe σ vs).set i0 v) vs = wipe σ vs)
    (hlen : ys.length = xs.length) (hz : xs.length < 100000) (hS : H1 a = some (.tup xs)) (hD : H1 D = none)
    (he : ∀ (i : Nat) (x y : V) (H2 : Hp) (Q : VK), xs[i]? = some x → ys[i]? = some y → Same H1 H2 → (∀ H3, Same H2 H3 → Q y H3) → te ((wipe σ vs).set i0 (some x)) H2 Q)
    (hd : ∀ H', Same H1 H' → H' D = some (.lst ys) → Qd H') :
    ∃ W : Nat → Nat → Hp → Prop, (∃ m, W 0 m (upd H1 D (.lst []))) ∧ ∀ i m H, W i m H →
      ((Itt K a).stop i H ∧ Qd H) ∨ ((Itt K a).go i H ∧ ∃ Nx : Hp → Prop, (∀ H', Nx H' → ∃ m', m' < m ∧ W (i + 1) m' H') ∧ ∀ x H', (Itt K a).yld i H x H' → g x (wipe σ vs) H' fun σ2 H2 => wipe σ2 vs = wipe σ vs ∧ tYes σ2 H2 fun b H3 =>
        if b = true then te σ2 H3 fun y H4 => ∃ acc, H4 D = some (.lst acc) ∧ acc.length < sizeLine ∧ Nx (upd H4 D (.lst (acc ++ [y]))) else Nx H3) := by
  subst hg
  refine lc_tup (xs := xs) (fun i H' => Same H1 H' ∧ H' D = some (.lst (ys.take i))) ⟨same_new hD, upd_same⟩ (fun i H' hi hP => SqT.of (hP.1 _ _ hS)) (fun i x H' hx hP => ?_) (fun H' hP => ?_)
  · obtain ⟨sm, hl⟩ := hP
    have hi : i < ys.length := by
      rw [hlen]
      obtain ⟨h, _⟩ := List.getElem?_eq_some_iff.mp hx
      exact h
    refine ⟨hw _, yes_go ?_⟩
    refine he i x ys[i] H' _ hx (List.getElem?_eq_getElem hi) sm fun H3 s3 => ?_
    refine ⟨ys.take i, s3 _ _ hl, ?_, Same.upd_new (sm.trans s3) hD, ?_⟩
    · rw [List.length_take]
      exact szl (by omega)
    · rw [upd_same, List.take_add_one, List.getElem?_eq_getElem hi]
      rfl
  · obtain ⟨sm, hl⟩ := hP
    rw [← hlen, List.take_length] at hl
    exact hd H' sm hl
/-! ### what the writers promise -/
def spEndText : Sp := fun vs H Q _ => ∃ (v : V) (e : Str × Int), vs = [v] ∧ Rp H v (encE e) ∧ e.1.length ≤ 100 ∧ -99 ≤ e.2 ∧ e.2 ≤ 99 ∧ ∀ H', Same H H' → Q (.str (S (endL e))) H'
def spThingText (n : Nat) : Sp := fun vs H Q _ => ∃ (v : V) (t : Thing) (C : Str → Prop) (A : Prop) (sc : List Str), vs = [v] ∧ Rp H v (enc t) ∧ TOk C A sc n t ∧ ScOk sc ∧ cntT t ≤ 1000 ∧ ∀ H', Same H H' → Q (.str (S (thingL t))) H'
def spPlanText (n : Nat) : Sp := fun vs H Q _ => ∃ (v : V) (ts : List Thing) (C : Str → Prop) (A : Prop) (sc : List Str), vs = [v] ∧ Rp H v (.tup (encs ts)) ∧ TsOk C A sc n ts ∧ ScOk sc ∧ cntB ts ≤ 1000 ∧ ∀ H', Same H H' → Q (.str (S (planL ts))) H'
/-- the same for the things of one kind -/
def spOne (kind : Thing → Prop) (n : Nat) : Sp := fun vs H Q _ => ∃ (v : V) (t : Thing) (C : Str → Prop) (A : Prop) (sc : List Str), vs = [v] ∧ kind t ∧ Rp H v (enc t) ∧ TOk C A sc n t ∧ ScOk sc ∧ cntT t ≤ 1000 ∧ ∀ H', Same H H' → Q (.str (S (thingL t))) H'
theorem endL_len {e : Str × Int} (h : e.1.length ≤ 100) (h1 : -99 ≤ e.2) (h2 : e.2 ≤ 99) : (endL e).length ≤ 110 := by
  have n1 := (num_small h1 h2).1
  have n2 := (num_small (i := -e.2) (by omega) (by omega)).1
  have l1 := len_tl e.1
  have p1 : (tl " + ").length = 3 := by decide +kernel
  have p2 : (tl " - ").length = 3 := by decide +kernel
  unfold endL
  split
  · omega
  · split
    · omega
    · split
      · rw [List.length_append, List.length_append]
        omega
      · rw [List.length_append, List.length_append]
        omega
/-! ### how a heap goes on: what M tells may be written, tuples stay -/
structure Go (M : Addr → Prop) (H H' : Hp) : Prop where
  sx : Sx M H H'
  im : Imm H H'
theorem Go.refl (M : Addr → Prop) (H : Hp) : Go M H H := ⟨Sx.refl M H, Imm.refl H⟩
theorem Go.trans {M : Addr → Prop} {H H1 H2 : Hp} (a : Go M H H1) (b : Go M H1 H2) : Go M H H2 := ⟨a.sx.trans b.sx, a.im.trans b.im⟩
theorem Go.same {M : Addr → Prop} {H H' : Hp} (a : Same H H') : Go M H H' := ⟨Sx.of_same a, Imm.same a⟩
theorem Go.new {M : Addr → Prop} {H H' : Hp} {p : Addr} {o : HO} (a : Go M H H') (h : H' p = none) : Go M H (upd H' p o) := a.trans (Go.same (same_new h))
theorem Go.mono {M N : Addr → Prop} {H H' : Hp} (a : Go M H H') (h : ∀ b, M b → N b) : Go N H H' := ⟨a.sx.mono h, a.im⟩
theorem Go.but {M : Addr → Prop} {H H' : Hp} {d L : Addr} (h : Dr H d L) (a : But d H H') (m : M d) : Go M H H' := ⟨Sx.of_but a m, h.imm a⟩
theorem Go.set {M : Addr → Prop} {H H' : Hp} {p : Addr} {o : HO} {l : List V} (a : Go M H H') (m : M p) (h : H' p = some (.lst l)) : Go M H (upd H' p o) :=
  ⟨a.sx.upd_in m, a.im.trans ((Imm.refl H').upd fun xs e => by rw [h] at e; cases e)⟩
theorem Go.own {M : Addr → Prop} {H H' : Hp} {p : Addr} {o : HO} (a : Go M H H') (h : H p = none) : Go M H (upd H' p o) :=
  ⟨a.sx.upd_new h, a.im.upd fun xs e => by rw [h] at e; cases e⟩
theorem Go.at {M : Addr → Prop} {H H' : Hp} {p : Addr} {o : HO} (a : Go M H H') (h : H p = some o) (n : ¬ M p) : H' p = some o := a.sx p o n h
/-- what is not tracked behind was not tracked ahead, where M's own are tracked behind -/
theorem Go.free {M : Addr → Prop} {H H' : Hp} {p : Addr} (a : Go M H H') (h : H' p = none) (n : ¬ M p) : H p = none := by
  cases q : H p with
  | none => rfl
  | some o =>
    rw [a.sx p o n q] at h
    cases h
theorem mem_ints2 {v : V} {a b : Int} (h : v ∈ [V.int a, .int b]) : ∃ m, v = .int m ∧ (m = a ∨ m = b) := by
  rcases List.mem_cons.mp h with rfl | h
  · exact ⟨a, rfl, .inl rfl⟩
  rcases List.mem_cons.mp h with rfl | h
  · exact ⟨b, rfl, .inr rfl⟩
  · cases h
theorem mem_ints3 {v : V} {a b c : Int} (h : v ∈ [V.int a, .int b, .int c]) : ∃ m, v = .int m ∧ (m = a ∨ m = b ∨ m = c) := by
  rcases List.mem_cons.mp h with rfl | h
  · exact ⟨a, rfl, .inl rfl⟩
  obtain ⟨m, e, q⟩ := mem_ints2 h
  exact ⟨m, e, .inr q⟩
theorem mem_ints {v : V} {ns : List Int} (h : v ∈ ns.map V.int) : ∃ m, v = .int m ∧ m ∈ ns := by
  obtain ⟨m, hm, e⟩ := List.mem_map.mp h
  exact ⟨m, e.symm, hm⟩
theorem mem_strs {v : V} {ns : List Str} (h : v ∈ ns.map V.str) : ∃ m, v = .str m ∧ m ∈ ns := by
  obtain ⟨m, hm, e⟩ := List.mem_map.mp h
  exact ⟨m, e.symm, hm⟩
/-! ### what the drawing promises -/
/-- the kit: room, the names that may be called (none), figures, wide -/
def Kt (H : Hp) (k kd : Addr) (r : Int) (fig wide : Bool) : Prop := H k = some (.lst [.int r, .ref kd, .bl fig, .bl wide]) ∧ H kd = some (.dK [])
def M2 (d k : Addr) : Addr → Prop := fun b => b = d ∨ b = k
/-- _law_some_end(draw, scope, wide) -/
def spSomeEnd : Sp := fun vs H Q _ => ∃ (d L sc : Addr) (ns : List Str) (wide : Bool), vs = [.ref d, .ref sc, .bl wide] ∧ Dr H d L ∧ H sc = some (.lst (ns.map V.str)) ∧ sc ≠ d ∧ ns ≠ [] ∧ ns.length < 100 ∧
  ∀ (v : V) (e : Str × Int) (H' : Hp), Rp H' v (encE e) → EndOk ns e → Dr H' d L → Go (· = d) H H' → Q v H'
/-- _law_fresh(draw, taken) -/
def spFresh : Sp := fun vs H Q _ => ∃ (d L sc : Addr) (ns : List Str), vs = [.ref d, .ref sc] ∧ Dr H d L ∧ H sc = some (.lst (ns.map V.str)) ∧ sc ≠ d ∧ ns.length < 26 ∧
  ∀ (x : Str) (H' : Hp), nameB x = true → x ∉ ns → Dr H' d L → Go (· = d) H H' → Q (.str x) H'
/-- no name may be called -/
abbrev C0 : Str → Prop := fun _ => False
/-- _law_leaf(draw, kit, scope, deep) -/
def spLeaf : Sp := fun vs H Q _ => ∃ (d L k kd sc : Addr) (dp r : Int) (fig wide : Bool), vs = [.ref d, .ref k, .ref sc, .int dp] ∧ Dr H d L ∧ Kt H k kd r fig wide ∧ k ≠ d ∧
  ∀ (v : V) (t : Thing) (H' : Hp), Rp H' v (enc t) → (∀ ns n, TOk C0 False ns n t) → cntT t = 1 → Dr H' d L → Go (· = d) H H' → Q v H'
/-- what a drawing of things is handed -/
def spDraw (post : Nat → List Str → V → Hp → Nat → Prop) (n : Nat) : Sp := fun vs H Q _ => ∃ (d L k kd sc : Addr) (r : Nat) (fig wide : Bool) (ns : List Str), vs = [.ref d, .ref k, .ref sc, .int (4 - n)] ∧ Dr H d L ∧ Kt H k kd r fig wide ∧ k ≠ d ∧ k ≠ L ∧ 1 ≤ r ∧ r ≤ 100 ∧
  H sc = some (.lst (ns.map V.str)) ∧ sc ≠ d ∧ sc ≠ k ∧ ScOk ns ∧ ns ≠ [] ∧ ns.length + n ≤ 20 ∧
  ∀ (v : V) (c r' : Nat) (H' : Hp), post n ns v H' c → c + r' = r → Dr H' d L → Kt H' k kd r' fig wide → Go (M2 d k) H H' → Q v H'
def spDrawThing : Nat → Sp := spDraw fun n ns v H' c => ∃ t, Rp H' v (enc t) ∧ TOk C0 False ns n t ∧ cntT t = c
def spDrawBody : Nat → Sp := spDraw fun n ns v H' c => ∃ ts, ts ≠ [] ∧ Rp H' v (.tup (encs ts)) ∧ TsOk C0 False ns n ts ∧ cntB ts = c
/-- _law_drawn(draw, room, figures, wide) -/
def spDrawn : Sp := fun vs H Q _ => ∃ (d L : Addr) (r : Nat) (fig wide : Bool), vs = [.ref d, .int r, .bl fig, .bl wide] ∧ Dr H d L ∧ 1 ≤ r ∧ r ≤ 100 ∧
  ∀ (v : V) (ts : List Thing) (H' : Hp), ts ≠ [] → Rp H' v (.tup (encs ts)) → TsOk C0 False ["n"] 4 ts → cntB ts ≤ r → Dr H' d L → Go (· = d) H H' → Q v H'
/-- of fewer than 26 names one of the doubled letters is none -/
theorem nodup_sub : ∀ {xs ys : List Str}, xs.Nodup → (∀ x ∈ xs, x ∈ ys) → xs.length ≤ ys.length
  | [], _, _, _ => Nat.zero_le _
  | x :: r, ys, h, s => by
    obtain ⟨h1, h2⟩ := List.nodup_cons.mp h
    have hx := s x List.mem_cons_self
    have ih := nodup_sub (xs := r) (ys := ys.erase x) h2 (fun y hy => by
      have hne : y ≠ x := fun e => h1 (e ▸ hy)
      exact (List.mem_erase_of_ne hne).mpr (s y (List.mem_cons_of_mem _ hy)))
    rw [List.length_erase_of_mem hx] at ih
    have : 0 < ys.length := List.length_pos_of_mem hx
    rw [List.length_cons]
    omega
def spare : List Str := abc.map fun c => S [c, c]
theorem spare_nodup : spare.Nodup := by decide +kernel
theorem spare_free {ns : List Str} (h : ns.length < 26) : ∃ x ∈ spare, x ∉ ns := by
  by_cases c : ∃ x ∈ spare, x ∉ ns
  · exact c
  · have : spare.length ≤ ns.length := nodup_sub spare_nodup (fun x hx => by
      by_cases hn : x ∈ ns
      · exact hn
      · exact absurd ⟨x, hx, hn⟩ c)
    have e : spare.length = 26 := by decide +kernel
    omega
theorem spare_name {x : Str} (h : x ∈ spare) : nameB x = true := by
  obtain ⟨c, hc, rfl⟩ := List.mem_map.mp h
  exact name_two c hc
end OG

set_option Elab.async false
set_option linter.all false
set_option maxRecDepth 100000
set_option maxHeartbeats 4000000
namespace OG
open PySem PySem.Spec PyProof.Rows L2
/-! ### two values that stand for one datum -/
def Eq2 (H : Hp) : Nat → V → V → Prop
  | 0, v, w => v = w ∧ flatV v = true
  | n + 1, v, w => (v = w ∧ flatV v = true) ∨
    (∃ (a b : Addr) (vs ws : List V), v = .ref a ∧ w = .ref b ∧ ((H a = some (.tup vs) ∧ H b = some (.tup ws)) ∨ (H a = some (.lst vs) ∧ H b = some (.lst ws))) ∧ vs.length = ws.length ∧ vs.length < 100000 ∧
      ∀ (i : Nat) x y, vs[i]? = some x → ws[i]? = some y → Eq2 H n x y)
theorem Eq2.same {H H' : Hp} (s : Same H H') : ∀ {n : Nat} {v w : V}, Eq2 H n v w → Eq2 H' n v w
  | 0, _, _, h => h
  | n + 1, v, w, h => by
    rcases h with h | ⟨a, b, vs, ws, e1, e2, h, hl, hz, q⟩
    · exact .inl h
    · refine .inr ⟨a, b, vs, ws, e1, e2, ?_, hl, hz, fun i x y hx hy => Eq2.same s (q i x y hx hy)⟩
      rcases h with ⟨h1, h2⟩ | ⟨h1, h2⟩
      · exact .inl ⟨s _ _ h1, s _ _ h2⟩
      · exact .inr ⟨s _ _ h1, s _ _ h2⟩
theorem Eq2.flat {H : Hp} {v : V} (h : flatV v = true) : ∀ n, Eq2 H n v v
  | 0 => ⟨rfl, h⟩
  | n + 1 => .inl ⟨rfl, h⟩
mutual
/-- how deep tuples stand in one another -/
def depD : D → Nat
  | .tup xs => 1 + depL xs
  | _ => 0
def depL : List D → Nat
  | [] => 0
  | x :: xs => max (depD x) (depL xs)
end
mutual
/-- no tuple is too long -/
def fitD : D → Prop
  | .tup xs => xs.length < 100000 ∧ fitL xs
  | _ => True
def fitL : List D → Prop
  | [] => True
  | x :: xs => fitD x ∧ fitL xs
end
theorem fit_get : ∀ {xs : List D} {i : Nat} {x : D}, fitL xs → xs[i]? = some x → fitD x
  | [], _, _, _, h => by simp at h
  | y :: ys, 0, x, f, h => by
    have : y = x := Option.some.inj h
    exact this ▸ f.1
  | y :: ys, i + 1, x, f, h => fit_get (xs := ys) (i := i) f.2 h
theorem dep_get : ∀ {xs : List D} {i : Nat} {x : D}, xs[i]? = some x → depD x ≤ depL xs
  | [], _, _, h => by simp at h
  | y :: ys, 0, x, h => by
    have : y = x := Option.some.inj h
    rw [← this]
    exact Nat.le_max_left _ _
  | y :: ys, i + 1, x, h => Nat.le_trans (dep_get (xs := ys) (i := i) h) (Nat.le_max_right _ _)
theorem eq2_of {H : Hp} : ∀ (n : Nat) (x : D) (v w : V), Rp H v x → Rp H w x → depD x ≤ n → fitD x → Eq2 H n v w
  | n, .non, _, _, h, k, _, _ => by rw [show _ = V.non from h, show _ = V.non from k]; exact Eq2.flat rfl n
  | n, .bl b, _, _, h, k, _, _ => by rw [show _ = V.bl b from h, show _ = V.bl b from k]; exact Eq2.flat rfl n
  | n, .int i, _, _, h, k, _, _ => by rw [show _ = V.int i from h, show _ = V.int i from k]; exact Eq2.flat rfl n
  | n, .str z, _, _, h, k, _, _ => by rw [show _ = V.str z from h, show _ = V.str z from k]; exact Eq2.flat rfl n
  | 0, .tup xs, _, _, _, _, hd, _ => by
    have : 1 + depL xs ≤ 0 := hd
    omega
  | n + 1, .tup xs, v, w, h, k, hd, hf => by
    obtain ⟨a, vs, e1, h1, r1⟩ := h
    obtain ⟨b, ws, e2, h2, r2⟩ := k
    have l1 := r1.length
    have l2 := r2.length
    have hd2 : depL xs ≤ n := by
      have : 1 + depL xs ≤ n + 1 := hd
      omega
    refine .inr ⟨a, b, vs, ws, e1, e2, .inl ⟨h1, h2⟩, l1.trans l2.symm, by rw [l1]; exact hf.1, fun i x y hx hy => ?_⟩
    obtain ⟨d1, g1, p1⟩ := r1.get hx
    obtain ⟨d2, g2, p2⟩ := r2.get hy
    have e : d1 = d2 := Option.some.inj (g1.symm.trans g2)
    subst e
    exact eq2_of n d1 x y p1 p2 (Nat.le_trans (dep_get g1) hd2) (fit_get hf.2 g1)
def spSame (n : Nat) : Sp := fun vs H Q _ => ∃ v w : V, vs = [v, w] ∧ Eq2 H n v w ∧ ∀ H', Same H H' → Q (.bl true) H'
def prevS : Nat → Sp
  | 0 => fun _ _ _ _ => False
  | n + 1 => spSame n
/-- zip of two tuples -/
theorem walk_zipT {K : PySem.W.Frag} {a b : Addr} {xs ys : List V} {n : Nat} (hn : n = min xs.length ys.length) : Walk (RZ.ItzT K a b) n (fun H => SqT K H a xs ∧ SqT K H b ys) (YPair (fun i => xs[i]?) (fun i => ys[i]?)) := by
  subst hn
  refine ⟨fun i _ hi q => ?_, fun _ q => ⟨xs, ys, q.1, q.2, by omega⟩, fun i H v H' _ q y => ?_⟩
  · have h1 : i < xs.length := by omega
    have h2 : i < ys.length := by omega
    exact ⟨xs, ys, xs[i], ys[i], q.1, q.2, by simp [h1], by simp [h2]⟩
  · obtain ⟨T, x, z, h1, h2, h3, h4, h5⟩ := y
    exact ⟨T, x, z, h1, h2, h3, h4 xs q.1, h5 ys q.2⟩
theorem fn_none {P : Program} {w : World} {K : PySem.W.Frag} {mg : Str → Option Value} {base : Heap} {f : Addr} {fd : FuncData} {k : Nat} {ps : List Str} : FnOk P w K mg base CX0 k f fd ps (fun _ _ _ _ => False) :=
  ⟨fun _ _ _ _ h => h.elim, fun _ _ _ _ _ _ _ _ _ _ _ _ _ h => h.elim⟩
theorem all_trues : ∀ n : Nat, (List.replicate n true).all id = true
  | 0 => rfl
  | n + 1 => by rw [List.replicate_succ, List.all_cons, all_trues n]; rfl
theorem pg_tupK {X : Cx} {K : PySem.W.Frag} {es : List Expr} {k : Nat} {t : TGs} {n : Nat} {pos : Pos} (hK : X.K = K) (hc : X.calm = true) (h : PGs X es t) (hn : (assignEach es X.env).length = n := by rfl) (hst : (assignEach es X.env).findIdx? (·.1) = none := by rfl) : PG X (.Tuple es k pos) (gTup K n t) := by
  subst hK
  exact pg_tup hc h hn hst
end OG

set_option Elab.async false
set_option linter.all false
set_option maxRecDepth 100000
set_option maxHeartbeats 4000000
namespace OG
open PySem PySem.Spec PyProof.Rows L2
theorem str_to {Q : VK} {a b : Str} {H : Hp} (h : Q (.str b) H) (e : tl a = tl b) : Q (.str a) H := by rw [str_ext e]; exact h
theorem szs {a b : Str} (h : a.length + b.length ≤ 100000) : (a ++ b).length ≤ sizeLine := by rw [len_app]; exact sz h
theorem szc {a b : Str} (h : a.length + b.length ≤ 100000) : a.length + b.length ≤ sizeLine := sz h
theorem l_emp : Str.empty.length = 0 := rfl
theorem l_0 : ("" : Str).length = 0 := by decide +kernel
theorem l_plus : (" + " : Str).length = 3 := by decide +kernel
theorem l_minus : (" - " : Str).length = 3 := by decide +kernel
theorem l_step : ("step " : Str).length = 5 := by decide +kernel
theorem l_for : ("for " : Str).length = 4 := by decide +kernel
theorem l_from : (" from " : Str).length = 6 := by decide +kernel
theorem l_to : (" to " : Str).length = 4 := by decide +kernel
theorem l_open : (" (" : Str).length = 2 := by decide +kernel
theorem l_shut : (")" : Str).length = 1 := by decide +kernel
theorem l_if : ("if " : Str).length = 3 := by decide +kernel
theorem l_le : (" <= " : Str).length = 4 := by decide +kernel
theorem l_else : (" else (" : Str).length = 7 := by decide +kernel
theorem l_double : ("double (" : Str).length = 8 := by decide +kernel
theorem l_call : ("call " : Str).length = 5 := by decide +kernel
theorem l_with : (" with " : Str).length = 6 := by decide +kernel
theorem l_again : ("again " : Str).length = 6 := by decide +kernel
theorem l_on : (" on " : Str).length = 4 := by decide +kernel
theorem numL_len {i : Int} (h0 : -99 ≤ i) (h1 : i ≤ 99) : ((toString i : Str)).length ≤ 3 := by
  have := (num_small h0 h1).1
  unfold numL at this
  rw [← len_tl] at this
  exact this
theorem int_log {i : Int} (h0 : -99 ≤ i) (h1 : i ≤ 99) : i.natAbs.log2 < 1920 := (num_small h0 h1).2
theorem strs_len (ls : List (List Nat)) : ((ls.map S).map (·.length)).sum = (ls.map (·.length)).sum := by
  rw [List.map_map]
  congr 1
theorem sum_le_two : ∀ ls : List (List Nat), (ls.map (·.length)).sum + ls.length * 2 = (ls.map (fun l => l.length + 2)).sum
  | [] => rfl
  | l :: r => by
    have ih := sum_le_two r
    rw [List.map_cons, List.map_cons, List.sum_cons, List.sum_cons, List.length_cons]
    omega
/-- '; '.join of the things' texts -/
theorem join_things (ts : List Thing) : Txt.join "; " (ts.map fun t => S (thingL t)) = S (planL ts) := by
  have e := SX.join_S (tl "; ") (thingsL ts)
  have e1 : SX.S (tl "; ") = ("; " : Str) := S_tl _
  rw [e1] at e
  have e2 : (thingsL ts).map SX.S = ts.map fun t => S (thingL t) := by
    rw [thingsL_map, List.map_map]
    rfl
  rw [e2] at e
  exact e
theorem things_sum {C : Str → Prop} {A : Prop} {ts : List Thing} {sc : List Str} {n : Nat} (h : TsOk C A sc n ts) (hs : ScOk sc) (hc : cntB ts ≤ 1000) :
    (((ts.map fun t => S (thingL t))).map (·.length)).sum + (ts.map fun t => S (thingL t)).length * ("; " : Str).length ≤ 16777216 := by
  have c0 : ("; " : Str).length = 2 := by decide +kernel
  have e : (ts.map fun t => S (thingL t)) = (thingsL ts).map S := by
    rw [thingsL_map, List.map_map]
    rfl
  rw [e, strs_len, c0, List.length_map, sum_le_two]
  have := things_size ts sc n h hs
  omega
theorem body_len {C : Str → Prop} {A : Prop} {ts : List Thing} {sc : List Str} {n : Nat} (h : TsOk C A sc n ts) (hs : ScOk sc) (hc : cntB ts ≤ 1000) : (planL ts).length ≤ 80000 := by
  have := plan_size h hs
  omega
theorem rpl_things {H : Hp} {vs : List V} {ts : List Thing} (h : RpL H vs (encs ts)) {i : Nat} {x : V} (hx : vs[i]? = some x) : ∃ t, ts[i]? = some t ∧ Rp H x (enc t) := by
  obtain ⟨d, hd, hr⟩ := h.get hx
  rw [encs_map, List.getElem?_map] at hd
  cases ht : ts[i]? with
  | none => rw [ht] at hd; cases hd
  | some t =>
    rw [ht] at hd
    have : enc t = d := Option.some.inj hd
    exact ⟨t, rfl, this ▸ hr⟩
end OG

set_option Elab.async false
set_option linter.all false
set_option maxRecDepth 100000
set_option maxHeartbeats 4000000
namespace OG
open PySem PySem.Spec PyProof.Rows L2
mutual
def toPy : D → PyData
  | .non => .none
  | .bl b => .bool b
  | .int n => .int n
  | .str z => .str z
  | .tup xs => .tuple (toPys xs)
def toPys : List D → List PyData
  | [] => []
  | x :: xs => toPy x :: toPys xs
end
mutual
theorem rp_dp {K : PySem.W.Frag} {H : Hp} : ∀ (x : D) (v : V), Rp H v x → Dp K H v (toPy x)
  | .non, _, h => by rw [show _ = V.non from h]; exact .non
  | .bl b, _, h => by rw [show _ = V.bl b from h]; exact .bl b
  | .int n, _, h => by rw [show _ = V.int n from h]; exact .int n
  | .str z, _, h => by rw [show _ = V.str z from h]; exact .str z
  | .tup xs, _, h => by
    obtain ⟨a, vs, e, q, r⟩ := h
    rw [e]
    exact .tup (SqT.of q) (rp_dps xs vs r)
theorem rp_dps {K : PySem.W.Frag} {H : Hp} : ∀ (xs : List D) (vs : List V), RpL H vs xs → DpAll K H vs (toPys xs)
  | [], _, h => by rw [show _ = [] from h]; exact .nil
  | x :: xs, _, h => by
    obtain ⟨v, r, e, q, t⟩ := h
    rw [e]
    exact .cons (rp_dp x v q) (rp_dps xs r t)
end
theorem abc_range : ∀ c ∈ abc, 97 ≤ c ∧ c ≤ 122 := by
  have h : abc.all (fun c => decide (97 ≤ c) && decide (c ≤ 122)) = true := by decide +kernel
  intro c hc
  have := List.all_eq_true.mp h c hc
  simpa only [Bool.and_eq_true, decide_eq_true_eq] using this
theorem name_strOk {z : Str} (h : nameB z = true) : PyData.strOk z = true := by
  have ha := name_abc h
  unfold PyData.strOk
  rw [Array.all_eq_true']
  intro c hc
  have := abc_range c (ha c (by simpa [tl] using hc))
  simp
  omega
theorem end_py {sc : List Str} {e : Str × Int} (hs : ScOk sc) (h : EndOk sc e) : (toPy (encE e)).canLay0 = true ∧ (toPy (encE e)).depth = 1 := by
  have h1 : PyData.strOk e.1 = true := by
    rcases h with ⟨h1, _⟩ | ⟨h1, _⟩
    · rw [h1]
      decide +kernel
    · rcases hs _ h1 with h2 | h2
      · rw [h2]
        decide +kernel
      · exact name_strOk h2
  refine ⟨?_, rfl⟩
  show (PyData.strOk e.1 && (true && true)) = true
  rw [h1]
  rfl
mutual
theorem thing_py {C : Str → Prop} {A : Prop} : ∀ (t : Thing) (sc : List Str) (n : Nat), TOk C A sc n t → ScOk sc → (toPy (enc t)).canLay0 = true ∧ (toPy (enc t)).depth ≤ 2 * n + 2
  | .step k, sc, n, h, hs => ⟨by show (PyData.strOk "step" && (true && true)) = true; decide +kernel, by show 1 ≤ 2 * n + 2; omega⟩
  | .loop x a b body, sc, n, h, hs => by
    obtain ⟨h1, h2, h3, h4, h5, m, rfl, h6⟩ := h
    obtain ⟨a1, a2⟩ := end_py hs h3
    obtain ⟨b1, b2⟩ := end_py hs h4
    obtain ⟨c1, c2⟩ := things_py body _ _ h6 (scOk_snoc hs h1)
    have f1 : PyData.strOk "for" = true := by decide +kernel
    constructor
    · show (PyData.strOk "for" && (PyData.strOk x && ((toPy (encE a)).canLay0 && ((toPy (encE b)).canLay0 && (PyData.canLayAll0 (toPys (encs body)) && true))))) = true
      rw [f1, name_strOk h1, a1, b1, c1]
      rfl
    · show max 0 (max 0 (max (toPy (encE a)).depth (max (toPy (encE b)).depth (max (PyData.depthAll (toPys (encs body)) + 1) 0)))) + 1 ≤ 2 * (m + 1) + 2
      rw [a2, b2]
      omega
  | .test a b x y, sc, n, h, hs => by
    obtain ⟨h3, h4, h5, m, rfl, h6, h7⟩ := h
    obtain ⟨a1, a2⟩ := end_py hs h3
    obtain ⟨b1, b2⟩ := end_py hs h4
    obtain ⟨c1, c2⟩ := things_py x _ _ h6 hs
    obtain ⟨d1, d2⟩ := things_py y _ _ h7 hs
    have f1 : PyData.strOk "if" = true := by decide +kernel
    constructor
    · show (PyData.strOk "if" && ((toPy (encE a)).canLay0 && ((toPy (encE b)).canLay0 && (PyData.canLayAll0 (toPys (encs x)) && (PyData.canLayAll0 (toPys (encs y)) && true))))) = true
      rw [f1, a1, b1, c1, d1]
      rfl
    · show max 0 (max (toPy (encE a)).depth (max (toPy (encE b)).depth (max (PyData.depthAll (toPys (encs x)) + 1) (max (PyData.depthAll (toPys (encs y)) + 1) 0)))) + 1 ≤ 2 * (m + 1) + 2
      rw [a2, b2]
      omega
  | .twice b, sc, n, h, hs => by
    obtain ⟨h5, m, rfl, h6⟩ := h
    obtain ⟨c1, c2⟩ := things_py b _ _ h6 hs
    have f1 : PyData.strOk "double" = true := by decide +kernel
    constructor
    · show (PyData.strOk "double" && (PyData.canLayAll0 (toPys (encs b)) && true)) = true
      rw [f1, c1]
      rfl
    · show max 0 (max (PyData.depthAll (toPys (encs b)) + 1) 0) + 1 ≤ 2 * (m + 1) + 2
      omega
  | .call x e, sc, n, h, hs => by
    obtain ⟨a1, a2⟩ := end_py hs h.2.2
    have f1 : PyData.strOk "call" = true := by decide +kernel
    constructor
    · show (PyData.strOk "call" && (PyData.strOk x && ((toPy (encE e)).canLay0 && true))) = true
      rw [f1, name_strOk h.1, a1]
      rfl
    · show max 0 (max 0 (max (toPy (encE e)).depth 0)) + 1 ≤ 2 * n + 2
      rw [a2]
      omega
  | .again k w, sc, n, h, hs => by
    obtain ⟨_, _, _, h3⟩ := h
    have f1 : PyData.strOk "again" = true := by decide +kernel
    have f2 : PyData.strOk w = true := by
      rcases h3 with rfl | rfl | rfl
      · decide +kernel
      · decide +kernel
      · decide +kernel
    constructor
    · show (PyData.strOk "again" && (true && (PyData.strOk w && true))) = true
      rw [f1, f2]
      rfl
    · show 1 ≤ 2 * n + 2
      omega
theorem things_py {C : Str → Prop} {A : Prop} : ∀ (ts : List Thing) (sc : List Str) (n : Nat), TsOk C A sc n ts → ScOk sc → PyData.canLayAll0 (toPys (encs ts)) = true ∧ PyData.depthAll (toPys (encs ts)) ≤ 2 * n + 2
  | [], _, _, _, _ => ⟨rfl, Nat.zero_le _⟩
  | t :: r, sc, n, h, hs => by
    obtain ⟨a1, a2⟩ := thing_py t sc n h.1 hs
    obtain ⟨b1, b2⟩ := things_py r sc n h.2 hs
    constructor
    · show ((toPy (enc t)).canLay0 && PyData.canLayAll0 (toPys (encs r))) = true
      rw [a1, b1]
      rfl
    · show max (toPy (enc t)).depth (PyData.depthAll (toPys (encs r))) ≤ 2 * n + 2
      omega
end
/-- a body against the empty tuple -/
theorem body_eqv {C : Str → Prop} {A : Prop} {ts : List Thing} {sc : List Str} {n : Nat} (h : TsOk C A sc n ts) (hs : ScOk sc) (hn : n ≤ 20) :
    SeqAt.shaped (toPy (.tup (encs ts))) = true ∧ PyData.eqv (toPy (.tup (encs ts))) (.tuple []) = ts.isEmpty := by
  obtain ⟨a1, a2⟩ := things_py ts sc n h hs
  constructor
  · unfold SeqAt.shaped
    rw [show (toPy (.tup (encs ts))).canLay0 = true from a1]
    have : (toPy (.tup (encs ts))).depth ≤ 64 := by
      show PyData.depthAll (toPys (encs ts)) + 1 ≤ 64
      omega
    rw [decide_eq_true this]
    rfl
  · cases ts with
    | nil => rfl
    | cons t r => rfl
end OG

set_option Elab.async false
set_option linter.all false
set_option maxRecDepth 100000
set_option maxHeartbeats 4000000
namespace OG
open PySem PySem.Spec PyProof.Rows L2
def cutD (xs : List D) (lo hi : Option Int) : List D := (xs.drop (HT.sIx xs.length 0 lo)).take (HT.sIx xs.length xs.length hi - HT.sIx xs.length 0 lo)
theorem sl_rp {K : PySem.W.Frag} {H : Hp} {v : V} {xs : List D} {lo hi : Option Int} {Q : VK} (h : Rp H v (.tup xs)) (q : ∀ v' H', Same H H' → Rp H' v' (.tup (cutD xs lo hi)) → Q v' H') : rSlA K v lo hi H Q := by
  obtain ⟨a, vs, rfl, ha, r⟩ := id h
  have l := r.length
  refine ⟨a, vs, rfl, SqT.of ha, fun hw => ?_, fun hw p np => ?_⟩
  · have e : cutD xs lo hi = xs := by
      unfold cutD
      rw [← l, hw.1, hw.2, List.drop_zero, Nat.sub_zero, l, List.take_length]
    have := q (.ref a) H (Same.refl H)
    rw [e] at this
    exact this h
  · have s : Same H (upd H p (.tup (cutV vs lo hi))) := same_new np
    refine q (.ref p) _ s (rp_tup upd_same ?_)
    unfold cutV cutD
    rw [← l]
    exact ((r.drop _).take _).to (Imm.same s)
theorem cat_rp {K : PySem.W.Frag} {H : Hp} {x y : V} {xs ys : List D} {Q : VK} (hx : Rp H x (.tup xs)) (hy : Rp H y (.tup ys)) (hz : xs.length + ys.length ≤ 100000) (q : ∀ v' H', Same H H' → Rp H' v' (.tup (xs ++ ys)) → Q v' H') : rCatA K x y H Q := by
  obtain ⟨a, vs, rfl, ha, r⟩ := id hx
  obtain ⟨b, ws, rfl, hb, t⟩ := id hy
  have l := r.length
  have m := t.length
  refine ⟨a, b, vs, ws, rfl, rfl, SqT.of ha, SqT.of hb, sz (by omega), fun e => ?_, fun _ e => ?_, fun _ _ p np => ?_⟩
  · have : xs = [] := List.eq_nil_of_length_eq_zero (by rw [← l, e]; rfl)
    subst this
    exact q (.ref b) H (Same.refl H) hy
  · have : ys = [] := List.eq_nil_of_length_eq_zero (by rw [← m, e]; rfl)
    subst this
    have := q (.ref a) H (Same.refl H)
    rw [List.append_nil] at this
    exact this hx
  · have s : Same H (upd H p (.tup (vs ++ ws))) := same_new np
    exact q (.ref p) _ s (rp_tup upd_same ((r.append t).to (Imm.same s)))
theorem cutD_to (xs : List D) (k : Nat) : cutD xs none (some (k : Int)) = xs.take k := by
  unfold cutD
  rw [HT.sIx_none, HT.sIx_nat, List.drop_zero, Nat.sub_zero]
  by_cases h : k ≤ xs.length
  · rw [Nat.min_eq_left h]
  · rw [Nat.min_eq_right (by omega), List.take_length, List.take_of_length_le (by omega)]
theorem cutD_from (xs : List D) (k : Nat) : cutD xs (some (k : Int)) none = xs.drop k := by
  unfold cutD
  rw [HT.sIx_none, HT.sIx_nat]
  by_cases h : k ≤ xs.length
  · rw [Nat.min_eq_left h, List.take_of_length_le (by rw [List.length_drop]; omega)]
  · rw [Nat.min_eq_right (by omega), List.drop_length, Nat.sub_self, List.drop_eq_nil_of_le (by omega)]
    rfl
theorem encs_take (ts : List Thing) (k : Nat) : (encs ts).take k = encs (ts.take k) := by rw [encs_map, encs_map, List.map_take]
theorem encs_drop (ts : List Thing) (k : Nat) : (encs ts).drop k = encs (ts.drop k) := by rw [encs_map, encs_map, List.map_drop]
theorem cnt_take : ∀ (ts : List Thing) (k : Nat), cntB (ts.take k) ≤ cntB ts
  | _, 0 => Nat.zero_le _
  | [], k + 1 => Nat.le_refl _
  | t :: r, k + 1 => by
    have := cnt_take r k
    show cntT t + cntB (r.take k) ≤ cntT t + cntB r
    omega
theorem cnt_drop : ∀ (ts : List Thing) (k : Nat), cntB (ts.drop k) ≤ cntB ts
  | _, 0 => Nat.le_refl _
  | [], k + 1 => Nat.le_refl _
  | t :: r, k + 1 => by
    have := cnt_drop r k
    show cntB (r.drop k) ≤ cntT t + cntB r
    omega
mutual
theorem tok_mono {C C' : Str → Prop} {A A' : Prop} (hC : ∀ x, C x → C' x) (hA : A → A') : ∀ (t : Thing) (sc : List Str) (n : Nat), TOk C A sc n t → TOk C' A' sc n t
  | .step _, _, _, h => h
  | .loop x a b body, sc, n, h => by
    obtain ⟨h1, h2, h3, h4, h5, m, e, h6⟩ := h
    exact ⟨h1, h2, h3, h4, h5, m, e, tsok_mono hC hA body _ _ h6⟩
  | .test a b x y, sc, n, h => by
    obtain ⟨h3, h4, h5, m, e, h6, h7⟩ := h
    exact ⟨h3, h4, h5, m, e, tsok_mono hC hA x _ _ h6, tsok_mono hC hA y _ _ h7⟩
  | .twice b, sc, n, h => by
    obtain ⟨h5, m, e, h6⟩ := h
    exact ⟨h5, m, e, tsok_mono hC hA b _ _ h6⟩
  | .call x e, sc, n, h => ⟨h.1, hC _ h.2.1, h.2.2⟩
  | .again k w, sc, n, h => ⟨hA h.1, h.2⟩
theorem tsok_mono {C C' : Str → Prop} {A A' : Prop} (hC : ∀ x, C x → C' x) (hA : A → A') : ∀ (ts : List Thing) (sc : List Str) (n : Nat), TsOk C A sc n ts → TsOk C' A' sc n ts
  | [], _, _, _ => trivial
  | t :: r, sc, n, h => ⟨tok_mono hC hA t sc n h.1, tsok_mono hC hA r sc n h.2⟩
end
theorem tsok_append {C : Str → Prop} {A : Prop} {sc : List Str} {n : Nat} {a b : List Thing} (h : TsOk C A sc n a) (k : TsOk C A sc n b) : TsOk C A sc n (a ++ b) := by
  rw [tsok_iff] at h k ⊢
  intro t ht
  rcases List.mem_append.mp ht with h1 | h1
  · exact h t h1
  · exact k t h1
theorem tsok_take {C : Str → Prop} {A : Prop} {sc : List Str} {n : Nat} {a : List Thing} (h : TsOk C A sc n a) (k : Nat) : TsOk C A sc n (a.take k) := by
  rw [tsok_iff] at h ⊢
  exact fun t ht => h t (List.mem_of_mem_take ht)
theorem tsok_drop {C : Str → Prop} {A : Prop} {sc : List Str} {n : Nat} {a : List Thing} (h : TsOk C A sc n a) (k : Nat) : TsOk C A sc n (a.drop k) := by
  rw [tsok_iff] at h ⊢
  exact fun t ht => h t (List.mem_of_mem_drop ht)
theorem scOk_n : ScOk ["n"] := fun x hx => .inl (List.mem_singleton.mp hx)
abbrev CT : Str → Prop := fun _ => True
def spLaw (K : PySem.W.Frag) : Sp := fun vs H Q _ => ∃ (a : Addr) (ns : List Int), vs = [.ref a] ∧ SqL K H a (ns.map V.int) ∧ ns.length ≤ 63 ∧ ∀ H', Q (.bl true) H'
/-! depth and fit of a plan's datum -/
theorem depD_end (e : Str × Int) : depD (encE e) = 1 := rfl
mutual
theorem thing_dep {C : Str → Prop} {A : Prop} : ∀ (t : Thing) (sc : List Str) (n : Nat), TOk C A sc n t → depD (enc t) ≤ 2 * n + 2
  | .step k, _, n, _ => by show 1 ≤ 2 * n + 2; omega
  | .loop x a b body, sc, n, h => by
    obtain ⟨_, _, _, _, _, m, rfl, h6⟩ := h
    have := things_dep body _ _ h6
    show 1 + max 0 (max 0 (max 1 (max 1 (max (1 + depL (encs body)) 0)))) ≤ 2 * (m + 1) + 2
    omega
  | .test a b x y, sc, n, h => by
    obtain ⟨_, _, _, m, rfl, h6, h7⟩ := h
    have h8 := things_dep x _ _ h6
    have h9 := things_dep y _ _ h7
    show 1 + max 0 (max 1 (max 1 (max (1 + depL (encs x)) (max (1 + depL (encs y)) 0)))) ≤ 2 * (m + 1) + 2
    omega
  | .twice b, sc, n, h => by
    obtain ⟨_, m, rfl, h6⟩ := h
    have := things_dep b _ _ h6
    show 1 + max 0 (max (1 + depL (encs b)) 0) ≤ 2 * (m + 1) + 2
    omega
  | .call x e, _, n, _ => by show 1 + max 0 (max 0 (max 1 0)) ≤ 2 * n + 2; omega
  | .again k w, _, n, _ => by show 1 ≤ 2 * n + 2; omega
theorem things_dep {C : Str → Prop} {A : Prop} : ∀ (ts : List Thing) (sc : List Str) (n : Nat), TsOk C A sc n ts → depL (encs ts) ≤ 2 * n + 2
  | [], _, _, _ => Nat.zero_le _
  | t :: r, sc, n, h => by
    have h1 := thing_dep t sc n h.1
    have h2 := things_dep r sc n h.2
    show max (depD (enc t)) (depL (encs r)) ≤ 2 * n + 2
    omega
end
theorem plan_dep {C : Str → Prop} {A : Prop} {ts : List Thing} {sc : List Str} {n k : Nat} (h : TsOk C A sc n ts) (hk : 2 * n + 3 ≤ k) : depD (.tup (encs ts)) ≤ k := by
  have := things_dep ts sc n h
  show 1 + depL (encs ts) ≤ k
  omega
mutual
theorem thing_fit : ∀ (t : Thing), cntT t ≤ 1000 → fitD (enc t)
  | .step k, _ => ⟨by show 2 < 100000; decide, trivial, trivial, trivial⟩
  | .loop x a b body, h => by
    have h2 : 1 + cntB body ≤ 1000 := h
    have hl := cnt_len body
    exact ⟨by show 5 < 100000; decide, trivial, trivial, ⟨by show 2 < 100000; decide, trivial, trivial, trivial⟩, ⟨by show 2 < 100000; decide, trivial, trivial, trivial⟩, ⟨by rw [encs_length]; omega, things_fit body (by omega)⟩, trivial⟩
  | .test a b x y, h => by
    have h2 : 1 + cntB x + cntB y ≤ 1000 := h
    have hx := cnt_len x
    have hy := cnt_len y
    exact ⟨by show 5 < 100000; decide, trivial, ⟨by show 2 < 100000; decide, trivial, trivial, trivial⟩, ⟨by show 2 < 100000; decide, trivial, trivial, trivial⟩, ⟨by rw [encs_length]; omega, things_fit x (by omega)⟩, ⟨by rw [encs_length]; omega, things_fit y (by omega)⟩, trivial⟩
  | .twice b, h => by
    have h2 : 1 + cntB b ≤ 1000 := h
    have hl := cnt_len b
    exact ⟨by show 2 < 100000; decide, trivial, ⟨by rw [encs_length]; omega, things_fit b (by omega)⟩, trivial⟩
  | .call x e, _ => ⟨by show 3 < 100000; decide, trivial, trivial, ⟨by show 2 < 100000; decide, trivial, trivial, trivial⟩, trivial⟩
  | .again k w, _ => ⟨by show 3 < 100000; decide, trivial, trivial, trivial, trivial⟩
theorem things_fit : ∀ (ts : List Thing), cntB ts ≤ 1000 → fitL (encs ts)
  | [], _ => trivial
  | t :: r, h => by
    have h2 : cntT t + cntB r ≤ 1000 := h
    exact ⟨thing_fit t (by omega), things_fit r (by omega)⟩
end
theorem plan_fit {C : Str → Prop} {A : Prop} {ts : List Thing} {sc : List Str} {n : Nat} (_ : TsOk C A sc n ts) (h : cntB ts ≤ 1000) : fitD (.tup (encs ts)) := by
  have hl := cnt_len ts
  exact ⟨by rw [encs_length]; omega, things_fit ts h⟩
end OG

set_option Elab.async false
set_option linter.all false
set_option maxRecDepth 100000
set_option maxHeartbeats 4000000
namespace OG
open PySem PySem.Spec PyProof.Rows L2
theorem Go.setI {M : Addr → Prop} {H H' : Hp} {p : Addr} {o : HO} (a : Go M H H') (m : M p) (h : ∀ xs, H' p ≠ some (.tup xs)) : Go M H (upd H' p o) :=
  ⟨a.sx.upd_in m, a.im.trans ((Imm.refl H').upd h)⟩
/-! ### the signs of a plan -/
def num (k : Int) : Str := toString k
def tokE (e : Str × Int) : List Str := if e.1 = "" then [num e.2] else if e.2 = 0 then [e.1] else if 0 < e.2 then [e.1, "+", num e.2] else [e.1, "-", num (-e.2)]
mutual
def tokT : Thing → List Str
  | .step k => (["step", num k] : List Str)
  | .loop x a b body => (["for", x, "from"] : List Str) ++ tokE a ++ (["to"] : List Str) ++ tokE b ++ (["("] : List Str) ++ tokB body ++ ([")"] : List Str)
  | .test a b x y => (["if"] : List Str) ++ tokE a ++ (["<="] : List Str) ++ tokE b ++ (["("] : List Str) ++ tokB x ++ ([")"] : List Str) ++ (match y with
    | [] => []
    | t :: r => (["else", "("] : List Str) ++ tokB (t :: r) ++ ([")"] : List Str))
  | .twice b => (["double", "("] : List Str) ++ tokB b ++ ([")"] : List Str)
  | .call x e => (["call", x, "with"] : List Str) ++ tokE e
  | .again k w => (["again", num k, "on", w] : List Str)
def tokB : List Thing → List Str
  | [] => []
  | t :: r => tokT t ++ (match r with
    | [] => []
    | u :: s => ([";"] : List Str) ++ tokB (u :: s))
end
theorem tokB_one (t : Thing) : tokB [t] = tokT t := by
  show tokT t ++ [] = tokT t
  rw [List.append_nil]
theorem tokB_two (t u : Thing) (s : List Thing) : tokB (t :: u :: s) = tokT t ++ (([";"] : List Str) ++ tokB (u :: s)) := rfl
/-! numbers -/
theorem num_ok {k : Int} (h0 : 0 ≤ k) (h1 : k ≤ 99) : Txt.isdigit (num k) = true ∧ PySem.intText? (num k) = some k ∧ (num k).length ≤ 2 := by
  have h : (List.range 100).all (fun n => Txt.isdigit (num (n : Int)) && decide (PySem.intText? (num (n : Int)) = some (n : Int)) && decide ((num (n : Int)).length ≤ 2)) = true := by decide +kernel
  have := List.all_eq_true.mp h k.toNat (List.mem_range.mpr (by omega))
  rw [show ((k.toNat : Nat) : Int) = k by omega] at this
  simp only [Bool.and_eq_true, decide_eq_true_eq] at this
  exact ⟨this.1.1, this.1.2, this.2⟩
/-! ### the reader's object -/
def rfs (sg : Addr) (p th dp : Nat) : List (Str × V) := [("signs", .ref sg), ("place", .int p), ("things", .int th), ("depth", .int dp)]
theorem rfs_signs (sg : Addr) (p th dp : Nat) : (rfs sg p th dp).lookup ("signs" : Str) = some (.ref sg) := by rfl
theorem rfs_place (sg : Addr) (p th dp : Nat) : (rfs sg p th dp).lookup ("place" : Str) = some (.int p) := by rfl
theorem rfs_things (sg : Addr) (p th dp : Nat) : (rfs sg p th dp).lookup ("things" : Str) = some (.int th) := by rfl
theorem rfs_depth (sg : Addr) (p th dp : Nat) : (rfs sg p th dp).lookup ("depth" : Str) = some (.int dp) := by rfl
theorem put_place (sg : Addr) (p th dp : Nat) : putF "place" (.int ((p : Int) + 1)) (rfs sg p th dp) = rfs sg (p + 1) th dp := by rfl
theorem put_things (sg : Addr) (p th dp : Nat) : putF "things" (.int ((th : Int) + 1)) (rfs sg p th dp) = rfs sg p (th + 1) dp := by rfl
theorem put_depth (sg : Addr) (p th dp : Nat) : putF "depth" (.int ((dp : Int) + 1)) (rfs sg p th dp) = rfs sg p th (dp + 1) := by rfl
theorem put_depth' (sg : Addr) (p th dp : Nat) : putF "depth" (.int (((dp + 1 : Nat) : Int) - 1)) (rfs sg p th (dp + 1)) = rfs sg p th dp := by
  have e : ((dp + 1 : Nat) : Int) - 1 = (dp : Int) := by omega
  rw [e]
  rfl
theorem rfs_len (sg : Addr) (p th dp : Nat) : (rfs sg p th dp).length < 1000 := by show 4 < 1000; decide
/-- the list at sg holds pairs of the signs and their places -/
def SgOk (H : Hp) (sg : Addr) (toks : List Str) : Prop := ∃ svs : List V, H sg = some (.lst svs) ∧ svs.length = toks.length ∧ ∀ (i : Nat) s, toks[i]? = some s → ∃ (a : Addr) (at_ : Int), svs[i]? = some (.ref a) ∧ H a = some (.tup [.str s, .int at_])
structure RS (H : Hp) (C o dx sg : Addr) (toks : List Str) (p th dp : Nat) : Prop where
  ob : H o = some (.ins C dx (rfs sg p th dp))
  sg : SgOk H sg toks
theorem RS.ne {H : Hp} {C o dx sg : Addr} {toks : List Str} {p th dp : Nat} (h : RS H C o dx sg toks p th dp) : sg ≠ o := by
  obtain ⟨svs, h1, _⟩ := h.sg
  exact ne_of h1 h.ob (fun z => by cases z)
theorem RS.go {H H' : Hp} {C o dx sg : Addr} {toks : List Str} {p th dp p' th' dp' : Nat} (h : RS H C o dx sg toks p th dp) (g : Go (· = o) H H') (ho : H' o = some (.ins C dx (rfs sg p' th' dp'))) : RS H' C o dx sg toks p' th' dp' := by
  obtain ⟨svs, h1, h2, h3⟩ := h.sg
  refine ⟨ho, svs, g.at h1 h.ne, h2, fun i s hs => ?_⟩
  obtain ⟨a, at_, e1, e2⟩ := h3 i s hs
  exact ⟨a, at_, e1, g.im _ _ e2⟩
theorem RS.new {H : Hp} {C o dx sg q : Addr} {u : HO} {toks : List Str} {p th dp : Nat} (h : RS H C o dx sg toks p th dp) (n : H q = none) : RS (upd H q u) C o dx sg toks p th dp :=
  h.go ((Go.refl _ H).new n) (same_new n _ _ h.ob)
theorem RS.same {H H' : Hp} {C o dx sg : Addr} {toks : List Str} {p th dp : Nat} (h : RS H C o dx sg toks p th dp) (s : Same H H') : RS H' C o dx sg toks p th dp := h.go (Go.same s) (s _ _ h.ob)
theorem RS.noTup {H : Hp} {C o dx sg : Addr} {toks : List Str} {p th dp : Nat} (h : RS H C o dx sg toks p th dp) : ∀ xs, H o ≠ some (.tup xs) := fun xs e => by
  rw [h.ob] at e
  cases e
/-- one sign taken -/
theorem RS.step {H : Hp} {C o dx sg : Addr} {toks : List Str} {p th dp p' th' dp' : Nat} (h : RS H C o dx sg toks p th dp) : RS (upd H o (.ins C dx (rfs sg p' th' dp'))) C o dx sg toks p' th' dp' ∧ Go (· = o) H (upd H o (.ins C dx (rfs sg p' th' dp'))) := by
  have g : Go (· = o) H (upd H o (.ins C dx (rfs sg p' th' dp'))) := (Go.refl _ H).setI rfl h.noTup
  exact ⟨h.go g upd_same, g⟩
/-! ### what the reader's methods promise -/
def spSign (C : Addr) : Sp := fun vs H Q _ => ∃ (o dx sg : Addr) (toks : List Str) (p th dp : Nat) (s : Str), vs = [.ref o] ∧ RS H C o dx sg toks p th dp ∧ toks[p]? = some s ∧ Q (.str s) H
/-- the next sign s is taken, v told -/
def spTook (C : Addr) (args : Str → List V → Prop) (ok : Str → List V → V → Prop) : Sp := fun vs H Q _ => ∃ (o dx sg : Addr) (toks : List Str) (p th dp : Nat) (s : Str) (as : List V) (v : V), vs = .ref o :: as ∧ RS H C o dx sg toks p th dp ∧ toks[p]? = some s ∧ args s as ∧ ok s as v ∧
  (∀ H', RS H' C o dx sg toks (p + 1) th dp → Go (· = o) H H' → Q v H')
def spTakeIf (C : Addr) : Sp := spTook C (fun _ as => as = [.bl true]) (fun s _ v => v = .str s)
def spTakeS (C : Addr) : Sp := spTook C (fun s as => as = [.str s]) (fun s _ v => v = .str s)
def spTakeName (C : Addr) : Sp := spTook C (fun s as => as = [] ∧ nameB s = true) (fun s _ v => v = .str s)
def spTakeNumber (C : Addr) : Sp := spTook C (fun s as => ∃ k lo hi : Int, s = num k ∧ as = [.int lo, .int hi] ∧ 0 ≤ k ∧ k ≤ 99 ∧ lo ≤ k ∧ k ≤ hi) (fun s _ v => ∃ k : Int, s = num k ∧ 0 ≤ k ∧ k ≤ 99 ∧ v = .int k)
/-- a reader's def that reads the signs ts, with what may follow, and tells v -/
def spRd (C : Addr) (want : List Str → Str → (V → Hp → Prop) → Nat → Nat → Nat → Prop) : Sp := fun vs H Q _ => ∃ (o dx sg : Addr) (toks ts rest : List Str) (r0 : Str) (p th dp c : Nat) (val : V → Hp → Prop), vs = [.ref o] ∧ RS H C o dx sg toks p th dp ∧ toks.drop p = ts ++ r0 :: rest ∧ want ts r0 val th dp c ∧
  (∀ v H', val v H' → RS H' C o dx sg toks (p + ts.length) (th + c) dp → Go (· = o) H H' → Q v H')
def spReadEnd (C : Addr) : Sp := spRd C fun ts r0 val th dp c => ∃ (e : Str × Int) (sc : List Str), ts = tokE e ∧ EndOk sc e ∧ ScOk sc ∧ r0 ≠ "+" ∧ r0 ≠ "-" ∧ c = 0 ∧ val = fun v H' => Rp H' v (encE e)
def spReadThing (C : Addr) (n : Nat) : Sp := spRd C fun ts r0 val th dp c => ∃ (t : Thing) (Cc : Str → Prop) (A : Prop) (sc : List Str), ts = tokT t ∧ TOk Cc A sc n t ∧ ScOk sc ∧ (r0 = ";" ∨ r0 = ")" ∨ r0 = "") ∧ c = cntT t ∧ th + c ≤ 12 ∧ dp + n ≤ 4 ∧ val = fun v H' => Rp H' v (enc t)
/-- behind the thing's own word -/
def spReadRest (C : Addr) (kind : Thing → Prop) (n : Nat) : Sp := spRd C fun ts r0 val th dp c => ∃ (t : Thing) (w : Str) (Cc : Str → Prop) (A : Prop) (sc : List Str), kind t ∧ w :: ts = tokT t ∧ TOk Cc A sc n t ∧ ScOk sc ∧ (r0 = ";" ∨ r0 = ")" ∨ r0 = "") ∧ c + 1 = cntT t ∧ th + c ≤ 12 ∧ dp + n ≤ 4 ∧ val = fun v H' => Rp H' v (enc t)
def spReadBody (C : Addr) (n : Nat) : Sp := spRd C fun ts r0 val th dp c => ∃ (b : List Thing) (Cc : Str → Prop) (A : Prop) (sc : List Str), ts = tokB b ∧ b ≠ [] ∧ TsOk Cc A sc n b ∧ ScOk sc ∧ (r0 = ")" ∨ r0 = "") ∧ c = cntB b ∧ th + c ≤ 12 ∧ dp + n ≤ 4 ∧ val = fun v H' => Rp H' v (.tup (encs b))
def spReadBracket (C : Addr) (n : Nat) : Sp := spRd C fun ts r0 val th dp c => ∃ (b : List Thing) (Cc : Str → Prop) (A : Prop) (sc : List Str), ts = (["("] : List Str) ++ tokB b ++ ([")"] : List Str) ∧ b ≠ [] ∧ TsOk Cc A sc n b ∧ ScOk sc ∧ c = cntB b ∧ th + c ≤ 12 ∧ dp + n + 1 ≤ 4 ∧ val = fun v H' => Rp H' v (.tup (encs b))
/-! places -/
theorem at_drop {toks ts rest : List Str} {p : Nat} {s : Str} (h : toks.drop p = s :: ts ++ rest) : toks[p]? = some s ∧ toks.drop (p + 1) = ts ++ rest := by
  have h1 : toks[p]? = (toks.drop p)[0]? := by rw [List.getElem?_drop, Nat.add_zero]
  have h2 : toks.drop (p + 1) = (toks.drop p).drop 1 := by rw [List.drop_drop]
  rw [h] at h1 h2
  exact ⟨h1, h2⟩
theorem drop_past {toks ts rest : List Str} {p : Nat} (h : toks.drop p = ts ++ rest) : toks.drop (p + ts.length) = rest := by
  have h2 : toks.drop (p + ts.length) = (toks.drop p).drop ts.length := by rw [List.drop_drop]
  rw [h2, h, List.drop_append_of_le_length (Nat.le_refl _), List.drop_length, List.nil_append]
theorem tokE_ne (e : Str × Int) : ∃ s r, tokE e = s :: r := by
  unfold tokE
  split
  · exact ⟨_, _, rfl⟩
  · split
    · exact ⟨_, _, rfl⟩
    · split <;> exact ⟨_, _, rfl⟩
theorem tokT_ne (t : Thing) : ∃ s r, tokT t = s :: r := by
  cases t with
  | step k => exact ⟨_, _, rfl⟩
  | loop x a b body => exact ⟨_, _, rfl⟩
  | test a b x y =>
    cases y with
    | nil => exact ⟨"if", tokE a ++ (["<="] : List Str) ++ tokE b ++ (["("] : List Str) ++ tokB x ++ ([")"] : List Str) ++ [], rfl⟩
    | cons t r => exact ⟨"if", tokE a ++ (["<="] : List Str) ++ tokE b ++ (["("] : List Str) ++ tokB x ++ ([")"] : List Str) ++ ((["else", "("] : List Str) ++ tokB (t :: r) ++ ([")"] : List Str)), rfl⟩
  | twice b => exact ⟨_, _, rfl⟩
  | call x e => exact ⟨_, _, rfl⟩
  | again k w => exact ⟨_, _, rfl⟩
theorem tokB_ne {b : List Thing} (h : b ≠ []) : ∃ s r, tokB b = s :: r := by
  cases b with
  | nil => exact absurd rfl h
  | cons t r =>
    obtain ⟨s, q, e⟩ := tokT_ne t
    cases r with
    | nil => exact ⟨s, q, by rw [tokB_one, e]⟩
    | cons u v => exact ⟨s, q ++ (([";"] : List Str) ++ tokB (u :: v)), by rw [tokB_two, e]; rfl⟩
theorem name_nodigit {x : Str} (h : nameB x = true ∨ x = "n") : Txt.isdigit x = false := by
  have hx : (∀ c ∈ tl x, c ∈ abc) ∧ tl x ≠ [] := by
    rcases h with h | rfl
    · refine ⟨name_abc h, fun e => ?_⟩
      have := (name_len h).1
      rw [len_tl, e] at this
      exact absurd this (by decide)
    · exact ⟨by decide +kernel, by decide +kernel⟩
  obtain ⟨h1, h2⟩ := hx
  have hd : ∀ c ∈ abc, PySem.Unicode.isDigit c = false := by
    have h : abc.all (fun c => !PySem.Unicode.isDigit c) = true := by decide +kernel
    intro c hc
    have := List.all_eq_true.mp h c hc
    simpa using this
  cases hl : tl x with
  | nil => exact absurd hl h2
  | cons c r =>
    have hc : c ∈ tl x := by rw [hl]; exact List.mem_cons_self
    have : x.cps.all PySem.Unicode.isDigit = false := by
      rw [Bool.eq_false_iff]
      intro z
      rw [Array.all_eq_true'] at z
      have := z c (by simpa [tl] using hc)
      rw [hd c (h1 c hc)] at this
      cases this
    unfold Txt.isdigit
    rw [this, Bool.and_false]
theorem bl1 {b : Bool} (h : b = true) : ([V.bl b] ++ []) = [V.bl true] := by rw [h]; rfl
theorem RS.to {H : Hp} {C o dx sg : Addr} {toks : List Str} {p th dp p' th' dp' : Nat} (h : RS H C o dx sg toks p th dp) (e1 : p = p') (e2 : th = th') (e3 : dp = dp') : RS H C o dx sg toks p' th' dp' := by
  subst e1 e2 e3
  exact h
theorem follow_ne {r0 : Str} (h : r0 = ";" ∨ r0 = ")" ∨ r0 = "") : r0 ≠ "+" ∧ r0 ≠ "-" ∧ r0 ≠ "else" := by
  rcases h with rfl | rfl | rfl
  · exact ⟨by decide +kernel, by decide +kernel, by decide +kernel⟩
  · exact ⟨by decide +kernel, by decide +kernel, by decide +kernel⟩
  · exact ⟨by decide +kernel, by decide +kernel, by decide +kernel⟩
theorem at_d1 {toks l : List Str} {p : Nat} {s : Str} (h : toks.drop p = s :: l) : toks[p]? = some s ∧ toks.drop (p + 1) = l := at_drop (ts := l) (rest := []) (by rw [h, List.append_nil]) |>.imp id (fun z => by rw [List.append_nil] at z; exact z)
/-- what stands behind a thing in a body -/
def more1 : List Thing → List Str
  | [] => []
  | u :: s => ([";"] : List Str) ++ tokB (u :: s)
theorem tokB_more (t : Thing) (r : List Thing) : tokB (t :: r) = tokT t ++ more1 r := by
  cases r <;> rfl
theorem RS.own {H : Hp} {C o dx sg F : Addr} {toks : List Str} {p th dp : Nat} {us : List V} (u : HO) (h : RS H C o dx sg toks p th dp) (n1 : F ≠ o) (n2 : sg ≠ F) (hF : H F = some (.lst us)) : RS (upd H F u) C o dx sg toks p th dp := by
  obtain ⟨svs, k1, k2, k3⟩ := h.sg
  have i4 : Imm H (upd H F u) := (Imm.refl H).upd fun xs e => by rw [hF] at e; cases e
  refine ⟨by rw [upd_ne n1.symm]; exact h.ob, svs, by rw [upd_ne n2]; exact k1, k2, fun i sx hsx => ?_⟩
  obtain ⟨a, at_, j1, j2⟩ := k3 i sx hsx
  exact ⟨a, at_, j1, i4 _ _ j2⟩
end OG

set_option Elab.async false
set_option linter.all false
set_option maxRecDepth 100000
set_option maxHeartbeats 4000000
namespace OG
open PySem PySem.Spec PyProof.Rows L2
/-! ### the signs of a text -/
def dig : List Nat := tl "0123456789"
def one5 : List Nat := tl "();+-"
/-- w is a sign where l follows -/
inductive Sg : List Nat → List Nat → Prop where
  | word {w l : List Nat} (h0 : w ≠ []) (h1 : ∀ c ∈ w, c ∈ abc) (h2 : w.length ≤ 8) (h3 : ∀ c r, l = c :: r → c ∉ abc) : Sg w l
  | num {w l : List Nat} (h0 : w ≠ []) (h1 : ∀ c ∈ w, c ∈ dig) (h2 : w.length ≤ 2) (h4 : w.length = 2 → w.head? ≠ some 48) (h3 : ∀ c r, l = c :: r → c ∉ dig) : Sg w l
  | one {c : Nat} {l : List Nat} (h : c ∈ one5) : Sg [c] l
  | le {l : List Nat} : Sg [60, 61] l
inductive Lx : List Nat → List Str → Prop where
  | nil : Lx [] []
  | blank {l : List Nat} {ts : List Str} (h : Lx l ts) : Lx (32 :: l) ts
  | sign {w l : List Nat} {ts : List Str} (s : Sg w l) (h : Lx l ts) : Lx (w ++ l) (S w :: ts)
theorem Sg.ne {w l : List Nat} (h : Sg w l) : w ≠ [] := by
  cases h with
  | word h0 _ _ _ => exact h0
  | num h0 _ _ _ _ => exact h0
  | one _ => simp
  | le => simp
theorem abc_dig : ∀ c ∈ abc, c ∉ dig := by
  have h : abc.all (fun c => !decide (c ∈ dig)) = true := by decide +kernel
  exact fun c hc => by simpa using List.all_eq_true.mp h c hc
theorem dig_abc : ∀ c ∈ dig, c ∉ abc := by
  have h : dig.all (fun c => !decide (c ∈ abc)) = true := by decide +kernel
  exact fun c hc => by simpa using List.all_eq_true.mp h c hc
theorem one_facts : ∀ c ∈ one5, c ∉ abc ∧ c ∉ dig ∧ c ≠ 32 ∧ c ≠ 60 := by
  have h : one5.all (fun c => !decide (c ∈ abc) && !decide (c ∈ dig) && decide (c ≠ 32) && decide (c ≠ 60)) = true := by decide +kernel
  intro c hc
  have := List.all_eq_true.mp h c hc
  simp only [Bool.and_eq_true, Bool.not_eq_true', decide_eq_false_iff_not, decide_eq_true_eq] at this
  exact ⟨this.1.1.1, this.1.1.2, this.1.2, this.2⟩
theorem abc_32 : (32 : Nat) ∉ abc ∧ (60 : Nat) ∉ abc ∧ (32 : Nat) ∉ dig ∧ (60 : Nat) ∉ dig ∧ (60 : Nat) ∉ one5 := by decide +kernel
theorem Sg.head {w l : List Nat} (h : Sg w l) : ∃ c r, w = c :: r ∧ c ≠ 32 := by
  cases h with
  | word h0 h1 _ _ =>
    cases w with
    | nil => exact absurd rfl h0
    | cons c r => exact ⟨c, r, rfl, fun e => abc_32.1 (e ▸ h1 c List.mem_cons_self)⟩
  | num h0 h1 _ _ _ =>
    cases w with
    | nil => exact absurd rfl h0
    | cons c r => exact ⟨c, r, rfl, fun e => abc_32.2.2.1 (e ▸ h1 c List.mem_cons_self)⟩
  | one h => exact ⟨_, _, rfl, (one_facts _ h).2.2.1⟩
  | le => exact ⟨60, [61], rfl, by decide⟩
/-! runs -/
def run (k l : List Nat) : Nat := (l.takeWhile fun c => decide (c ∈ k)).length
theorem run_nil (k : List Nat) : run k [] = 0 := rfl
theorem run_in {k l : List Nat} {c : Nat} (h : c ∈ k) : run k (c :: l) = 1 + run k l := by
  unfold run
  rw [List.takeWhile_cons, if_pos (decide_eq_true h), List.length_cons]
  omega
theorem run_out {k l : List Nat} {c : Nat} (h : c ∉ k) : run k (c :: l) = 0 := by
  unfold run
  rw [List.takeWhile_cons, if_neg (by rw [decide_eq_false h]; exact Bool.false_ne_true)]
  rfl
theorem run_eq {k : List Nat} : ∀ {w l : List Nat}, (∀ c ∈ w, c ∈ k) → (∀ c r, l = c :: r → c ∉ k) → run k (w ++ l) = w.length
  | [], l, _, h => by
    cases l with
    | nil => rfl
    | cons c r => exact run_out (h c r rfl)
  | c :: w, l, h1, h2 => by
    show run k (c :: (w ++ l)) = w.length + 1
    rw [run_in (h1 c List.mem_cons_self), run_eq (fun d hd => h1 d (List.mem_cons_of_mem _ hd)) h2]
    omega
def spRunEnd : Sp := fun vs H Q _ => ∃ (z kind : Str) (at_ : Nat), vs = [.str z, .int at_, .str kind] ∧ z.length < 100000 ∧ at_ ≤ z.length ∧ Q (.int ((at_ + run (tl kind) ((tl z).drop at_) : Nat) : Int)) H
/-- word_end, number_end, sign_end: the sign w stands at the place -/
def spSignEnd (ok : List Nat → List Nat → Prop) : Sp := fun vs H Q _ => ∃ (z : Str) (at_ : Nat) (w l : List Nat), vs = [.str z, .int at_] ∧ z.length < 100000 ∧ (tl z).drop at_ = w ++ l ∧ w ≠ [] ∧ at_ < z.length ∧ ok w l ∧ Q (.int ((at_ + w.length : Nat) : Int)) H
def okWord (w l : List Nat) : Prop := (∀ c ∈ w, c ∈ abc) ∧ w.length ≤ 8 ∧ ∀ c r, l = c :: r → c ∉ abc
def okNum (w l : List Nat) : Prop := (∀ c ∈ w, c ∈ dig) ∧ w.length ≤ 2 ∧ (w.length = 2 → w.head? ≠ some 48) ∧ ∀ c r, l = c :: r → c ∉ dig
def spSignsOf : Sp := fun vs H Q _ => ∃ (z : Str) (toks : List Str), vs = [.str z] ∧ z.length < 100000 ∧ Lx (tl z) toks ∧ toks.length < 100000 ∧ ∀ (sg : Addr) (H' : Hp), Same H H' → H sg = none → SgOk H' sg toks → Q (.ref sg) H'
def spInit (C : Addr) : Sp := fun vs H Q _ => ∃ (o dx : Addr) (z : Str) (toks : List Str), vs = [.ref o, .str z] ∧ H o = some (.ins C dx []) ∧ z.length < 100000 ∧ Lx (tl z) toks ∧
  ∀ (sg : Addr) (H' : Hp), RS H' C o dx sg (toks ++ ([""] : List Str)) 0 0 0 → Go (· = o) H H' → Q .non H'
def spReadPlan (n : Nat) : Sp := fun vs H Q _ => ∃ (z : Str) (ts : List Thing) (C : Str → Prop) (A : Prop) (sc : List Str), vs = [.str z] ∧ z.length < 100000 ∧ Lx (tl z) (tokB ts) ∧ ts ≠ [] ∧ TsOk C A sc n ts ∧ ScOk sc ∧ cntB ts ≤ 12 ∧ n ≤ 4 ∧ ∀ v H', Rp H' v (.tup (encs ts)) → Same H H' → Q v H'
theorem at_head {z : Str} {at_ : Nat} {c : Nat} {r : List Nat} (h : (tl z).drop at_ = c :: r) : atI (tl z) (at_ : Int) = some c := by
  refine atI_nat ?_
  have h1 : (tl z)[at_]? = ((tl z).drop at_)[0]? := by rw [List.getElem?_drop, Nat.add_zero]
  rw [h1, h]
  rfl
theorem cut_word {z : Str} {at_ : Nat} {w l : List Nat} (h : (tl z).drop at_ = w ++ l) (hl : at_ ≤ z.length) : cutS z (some (at_ : Int)) (some ((at_ + w.length : Nat) : Int)) = S w := by
  have hz := len_tl z
  have hlen : (tl z).length - at_ = w.length + l.length := by
    have := congrArg List.length h
    rw [List.length_drop, List.length_append] at this
    exact this
  unfold cutS
  rw [HT.sIx_nat, HT.sIx_nat, Nat.min_eq_left hl, Nat.min_eq_left (by omega)]
  have : (z.cps.toList.drop at_) = w ++ l := h
  rw [this, Nat.add_sub_cancel_left, List.take_append_of_le_length (Nat.le_refl _), List.take_length]
/-! ### the signs of a plan's text -/
/-- l begins with no letter and no figure -/
def Brk (l : List Nat) : Prop := ∀ c r, l = c :: r → c ∉ abc ∧ c ∉ dig
/-- a piece of a text with its signs, whatever follows that begins with no letter and no figure -/
def Pc (a : List Nat) (ts : List Str) : Prop := ∀ l us, Brk l → Lx l us → Lx (a ++ l) (ts ++ us)
theorem brk_nil : Brk [] := fun _ _ h => by cases h
theorem pc_nil : Pc [] [] := fun _ _ _ h => h
theorem Pc.cat {a b : List Nat} {ts us : List Str} (h1 : Pc a ts) (h2 : Pc b us) (hb : ∀ l, Brk l → Brk (b ++ l)) : Pc (a ++ b) (ts ++ us) := fun l vs bl h => by
  rw [List.append_assoc, List.append_assoc]
  exact h1 _ _ (hb l bl) (h2 l vs bl h)
theorem pc_blank : Pc [32] [] := fun _ _ _ h => .blank h
theorem brk_of {b : List Nat} {c : Nat} {r : List Nat} (e : b = c :: r) (h1 : c ∉ abc) (h2 : c ∉ dig) : ∀ l, Brk l → Brk (b ++ l) := fun l _ d s e2 => by
  rw [e] at e2
  have := (List.cons.inj e2).1
  rw [← this]
  exact ⟨h1, h2⟩
theorem pc_word {w : List Nat} (h0 : w ≠ []) (h1 : ∀ c ∈ w, c ∈ abc) (h2 : w.length ≤ 8) : Pc w [S w] := fun l us bl h => .sign (.word h0 h1 h2 fun c r e => (bl c r e).1) h
theorem pc_num {k : Int} (h0 : 0 ≤ k) (h1 : k ≤ 99) : Pc (numL k) [num k] := by
  have h : (List.range 100).all (fun n => decide (numL (n : Int) ≠ []) && (numL (n : Int)).all (fun c => decide (c ∈ dig)) && decide ((numL (n : Int)).length ≤ 2) && (decide ((numL (n : Int)).length ≠ 2) || decide ((numL (n : Int)).head? ≠ some 48))) = true := by decide +kernel
  have q := List.all_eq_true.mp h k.toNat (List.mem_range.mpr (by omega))
  rw [show ((k.toNat : Nat) : Int) = k by omega] at q
  simp only [Bool.and_eq_true, decide_eq_true_eq, Bool.or_eq_true] at q
  obtain ⟨⟨⟨q1, q2⟩, q3⟩, q4⟩ := q
  intro l us bl hl
  have e : num k = S (numL k) := (S_tl (num k)).symm
  rw [e]
  refine .sign (.num q1 (fun c hc => of_decide_eq_true (List.all_eq_true.mp q2 c hc)) q3 (fun z => ?_) fun c r e => (bl c r e).2) hl
  rcases q4 with q4 | q4
  · exact absurd z q4
  · exact q4
theorem pc_one {c : Nat} (h : c ∈ one5) : Pc [c] [S [c]] := fun _ _ _ h2 => .sign (.one h) h2
theorem pc_le : Pc [60, 61] [S [60, 61]] := fun _ _ _ h2 => .sign .le h2
theorem pc_name {x : Str} (h : nameB x = true ∨ x = "n") : Pc (tl x) [x] := by
  have hx : (∀ c ∈ tl x, c ∈ abc) ∧ tl x ≠ [] ∧ (tl x).length ≤ 8 := by
    rcases h with h | rfl
    · refine ⟨name_abc h, fun e => ?_, by rw [← len_tl]; exact (name_len h).2⟩
      have := (name_len h).1
      rw [len_tl, e] at this
      exact absurd this (by decide)
    · exact ⟨by decide +kernel, by decide +kernel, by decide +kernel⟩
  have := pc_word hx.2.1 hx.1 hx.2.2
  rw [S_tl] at this
  exact this
theorem lx_len : ∀ {l : List Nat} {ts : List Str}, Lx l ts → ts.length ≤ l.length := by
  intro l ts h
  induction h with
  | nil => exact Nat.le_refl _
  | blank _ ih => exact Nat.le_succ_of_le ih
  | @sign w l ts s _ ih =>
    have := List.length_pos_iff.mpr s.ne
    rw [List.length_append, List.length_cons]
    omega
/-- a piece that ends in a blank or a sign of its own -/
def Pf (a : List Nat) (ts : List Str) : Prop := ∀ l us, Lx l us → Lx (a ++ l) (ts ++ us)
theorem Pf.pc {a : List Nat} {ts : List Str} (h : Pf a ts) : Pc a ts := fun l us _ h2 => h l us h2
theorem Pf.catC {a b : List Nat} {ts us : List Str} (h1 : Pf a ts) (h2 : Pc b us) : Pc (a ++ b) (ts ++ us) := fun l vs bl h => by
  rw [List.append_assoc, List.append_assoc]
  exact h1 _ _ (h2 l vs bl h)
theorem Pf.catF {a b : List Nat} {ts us : List Str} (h1 : Pf a ts) (h2 : Pf b us) : Pf (a ++ b) (ts ++ us) := fun l vs h => by
  rw [List.append_assoc, List.append_assoc]
  exact h1 _ _ (h2 l vs h)
/-- b begins with a blank or a sign of its own -/
def Bk (b : List Nat) : Prop := ∃ c r, b = c :: r ∧ c ∉ abc ∧ c ∉ dig
theorem Bk.brk {b : List Nat} (h : Bk b) (l : List Nat) : Brk (b ++ l) := fun d s e => by
  obtain ⟨c, r, rfl, h1, h2⟩ := h
  have := (List.cons.inj e).1
  rw [← this]
  exact ⟨h1, h2⟩
theorem Pc.catF {a b : List Nat} {ts us : List Str} (h1 : Pc a ts) (h2 : Pf b us) (hb : Bk b) : Pf (a ++ b) (ts ++ us) := fun l vs h => by
  rw [List.append_assoc, List.append_assoc]
  exact h1 _ _ (hb.brk l) (h2 l vs h)
theorem pf_blank : Pf [32] [] := fun _ _ h => .blank h
theorem pf_one {c : Nat} (h : c ∈ one5) : Pf [c] [S [c]] := fun _ _ h2 => .sign (.one h) h2
theorem pf_le : Pf [60, 61] [S [60, 61]] := fun _ _ h2 => .sign .le h2
theorem bk_blank (r : List Nat) : Bk (32 :: r) := ⟨32, r, rfl, abc_32.1, abc_32.2.2.1⟩
theorem bk_one {c : Nat} (h : c ∈ one5) (r : List Nat) : Bk (c :: r) := ⟨c, r, rfl, (one_facts c h).1, (one_facts c h).2.1⟩
theorem pf_w {w : List Nat} (h : (!w.isEmpty && w.all (fun c => decide (c ∈ abc)) && decide (w.length ≤ 8)) = true) : Pf (w ++ [32]) ([S w] ++ []) := by
  simp only [Bool.and_eq_true, decide_eq_true_eq, Bool.not_eq_true', List.isEmpty_eq_false_iff] at h
  exact (pc_word h.1.1 (fun c hc => of_decide_eq_true (List.all_eq_true.mp h.1.2 c hc)) h.2).catF pf_blank (bk_blank [])
theorem pf_step : Pf (tl "step ") ["step"] := pf_w (w := tl "step") (by decide +kernel)
theorem pf_for : Pf (tl "for ") ["for"] := pf_w (w := tl "for") (by decide +kernel)
theorem pf_if : Pf (tl "if ") ["if"] := pf_w (w := tl "if") (by decide +kernel)
theorem pf_call : Pf (tl "call ") ["call"] := pf_w (w := tl "call") (by decide +kernel)
theorem pf_again : Pf (tl "again ") ["again"] := pf_w (w := tl "again") (by decide +kernel)
theorem pf_from : Pf (tl " from ") ["from"] := pf_blank.catF (pf_w (w := tl "from") (by decide +kernel))
theorem pf_to : Pf (tl " to ") ["to"] := pf_blank.catF (pf_w (w := tl "to") (by decide +kernel))
theorem pf_with : Pf (tl " with ") ["with"] := pf_blank.catF (pf_w (w := tl "with") (by decide +kernel))
theorem pf_on : Pf (tl " on ") ["on"] := pf_blank.catF (pf_w (w := tl "on") (by decide +kernel))
theorem pf_open : Pf (tl " (") ["("] := pf_blank.catF (pf_one (c := 40) (by decide +kernel))
theorem pf_shut : Pf (tl ")") [")"] := pf_one (c := 41) (by decide +kernel)
theorem pf_semi : Pf (tl "; ") [";"] := (pf_one (c := 59) (by decide +kernel)).catF pf_blank
theorem pf_les : Pf (tl " <= ") ["<="] := pf_blank.catF (pf_le.catF pf_blank)
theorem pf_plus : Pf (tl " + ") ["+"] := pf_blank.catF ((pf_one (c := 43) (by decide +kernel)).catF pf_blank)
theorem pf_minus : Pf (tl " - ") ["-"] := pf_blank.catF ((pf_one (c := 45) (by decide +kernel)).catF pf_blank)
theorem pf_double : Pf (tl "double (") ["double", "("] := (pf_w (w := tl "double") (by decide +kernel)).catF (pf_one (c := 40) (by decide +kernel))
theorem pf_else : Pf (tl " else (") ["else", "("] := pf_blank.catF ((pf_w (w := tl "else") (by decide +kernel)).catF (pf_one (c := 40) (by decide +kernel)))
theorem bk_s {z : Str} (h : (match tl z with | [] => false | c :: _ => !decide (c ∈ abc) && !decide (c ∈ dig)) = true) : Bk (tl z) := by
  cases e : tl z with
  | nil => rw [e] at h; cases h
  | cons c r =>
    rw [e] at h
    simp only [Bool.and_eq_true, Bool.not_eq_true', decide_eq_false_iff_not] at h
    exact ⟨c, r, rfl, h.1, h.2⟩
theorem pc_word2 {w : Str} (h : (!(tl w).isEmpty && (tl w).all (fun c => decide (c ∈ abc)) && decide ((tl w).length ≤ 8)) = true) : Pc (tl w) [w] := by
  simp only [Bool.and_eq_true, decide_eq_true_eq, Bool.not_eq_true', List.isEmpty_eq_false_iff] at h
  have := pc_word h.1.1 (fun c hc => of_decide_eq_true (List.all_eq_true.mp h.1.2 c hc)) h.2
  rw [S_tl] at this
  exact this
theorem pc_end {sc : List Str} {e : Str × Int} (hs : ScOk sc) (h : EndOk sc e) : Pc (endL e) (tokE e) := by
  unfold endL tokE
  by_cases e1 : e.1 = ""
  · rw [if_pos e1, if_pos e1]
    rcases h with ⟨_, h2, h3⟩ | ⟨h1, _⟩
    · exact pc_num h2 h3
    · rw [e1] at h1
      rcases hs _ h1 with h2 | h2
      · exact absurd h2 (by decide +kernel)
      · exact absurd h2 (by decide +kernel)
  · rw [if_neg e1, if_neg e1]
    have hn : (nameB e.1 = true ∨ e.1 = "n") ∧ -99 ≤ e.2 ∧ e.2 ≤ 99 := by
      rcases h with ⟨h1, _⟩ | ⟨h1, h2, h3⟩
      · exact absurd h1 e1
      · rcases hs _ h1 with h4 | h4
        · exact ⟨.inr h4, h2, h3⟩
        · exact ⟨.inl h4, h2, h3⟩
    have p1 := pc_name hn.1
    by_cases e2 : e.2 = 0
    · rw [if_pos e2, if_pos e2]
      exact p1
    · rw [if_neg e2, if_neg e2]
      by_cases e3 : 0 < e.2
      · rw [if_pos e3, if_pos e3]
        exact (p1.catF pf_plus (bk_s (by decide +kernel))).catC (pc_num (by omega) (by omega))
      · rw [if_neg e3, if_neg e3]
        exact (p1.catF pf_minus (bk_s (by decide +kernel))).catC (pc_num (by omega) (by omega))
mutual
theorem pc_thing {C : Str → Prop} {A : Prop} : ∀ (t : Thing) (sc : List Str) (n : Nat), TOk C A sc n t → ScOk sc → Pc (thingL t) (tokT t)
  | .step k, sc, n, h, hs => pf_step.catC (pc_num h.1 h.2)
  | .loop x a b body, sc, n, h, hs => by
    obtain ⟨h1, h2, h3, h4, h5, m, rfl, h6⟩ := h
    have P := pc_body body _ _ h6 (scOk_snoc hs h1)
    have := ((((((((pf_for.catC (pc_name (.inl h1))).catF pf_from (bk_s (by decide +kernel))).catC (pc_end hs h3)).catF pf_to (bk_s (by decide +kernel))).catC (pc_end hs h4)).catF pf_open (bk_s (by decide +kernel))).catC P).catF pf_shut (bk_s (by decide +kernel))).pc
    exact this
  | .test a b x y, sc, n, h, hs => by
    obtain ⟨h3, h4, h5, m, rfl, h6, h7⟩ := h
    have P := pc_body x _ _ h6 hs
    have P2 := pc_body y _ _ h7 hs
    have A1 := (((((pf_if.catC (pc_end hs h3)).catF pf_les (bk_s (by decide +kernel))).catC (pc_end hs h4)).catF pf_open (bk_s (by decide +kernel))).catC P).catF pf_shut (bk_s (by decide +kernel))
    cases y with
    | nil =>
      have := (A1.catC pc_nil)
      exact this
    | cons t r =>
      have := (A1.catF ((pf_else.catC P2).catF pf_shut (bk_s (by decide +kernel)))).pc
      exact this
  | .twice b, sc, n, h, hs => by
    obtain ⟨h5, m, rfl, h6⟩ := h
    exact ((pf_double.catC (pc_body b _ _ h6 hs)).catF pf_shut (bk_s (by decide +kernel))).pc
  | .call x e, sc, n, h, hs => ((pf_call.catC (pc_name (.inl h.1))).catF pf_with (bk_s (by decide +kernel))).catC (pc_end hs h.2.2)
  | .again k w, sc, n, h, hs => by
    obtain ⟨_, h1, h2, h3⟩ := h
    have pw : Pc (tl w) [w] := by
      rcases h3 with rfl | rfl | rfl
      · exact pc_word2 (by decide +kernel)
      · exact pc_word2 (by decide +kernel)
      · exact pc_word2 (by decide +kernel)
    exact ((pf_again.catC (pc_num (by omega) (by omega))).catF pf_on (bk_s (by decide +kernel))).catC pw
theorem pc_body {C : Str → Prop} {A : Prop} : ∀ (ts : List Thing) (sc : List Str) (n : Nat), TsOk C A sc n ts → ScOk sc → Pc (planL ts) (tokB ts)
  | [], _, _, _, _ => pc_nil
  | t :: r, sc, n, h, hs => by
    have P1 := pc_thing t sc n h.1 hs
    have P2 := pc_body r sc n h.2 hs
    cases r with
    | nil =>
      rw [tokB_one]
      exact P1
    | cons u s =>
      have e : planL (t :: u :: s) = (thingL t ++ tl "; ") ++ planL (u :: s) := by
        show thingL t ++ (tl "; " ++ TL.joinL (tl "; ") (thingsL (u :: s))) = _
        rw [List.append_assoc]
        rfl
      have e2 : tokB (t :: u :: s) = (tokT t ++ ([";"] : List Str)) ++ tokB (u :: s) := by
        rw [tokB_two, List.append_assoc]
      rw [e, e2]
      exact (P1.catF pf_semi (bk_s (by decide +kernel))).catC P2
end
/-- the text of a plan has its signs -/
theorem lx_plan {C : Str → Prop} {A : Prop} {ts : List Thing} {sc : List Str} {n : Nat} (h : TsOk C A sc n ts) (hs : ScOk sc) : Lx (planL ts) (tokB ts) := by
  have := pc_body ts sc n h hs [] [] brk_nil .nil
  rw [List.append_nil, List.append_nil] at this
  exact this
end OG

set_option Elab.async false
set_option linter.all false
set_option maxRecDepth 100000
set_option maxHeartbeats 4000000
namespace OGX
open PySem PySem.Spec PyProof.Rows L2 OG
/-! ### a tuple of any number of classes in an except clause -/
section
variable {M : Model} {A : Around} {E : Value → Shared → Prop} {s : Shared} {α : Type}
theorem loop_all {f : Value → α → Sem (ForInStep α)} {r : α} : ∀ {cs : List Value} {Q : α → Shared → Prop}, (∀ c ∈ cs, ∀ Q' : ForInStep α → Shared → Prop, Q' (.yield r) s → wpAny M A (f c r) Q' E s) → Q r s → wpAny M A (forIn cs r f) Q E s
  | [], Q, _, q => by
    simp only [List.forIn_nil]
    exact wpAny_pure q
  | c :: cs, Q, st, q => by
    simp only [List.forIn_cons]
    exact wpAny_bind (st c List.mem_cons_self _ (loop_all (fun d hd => st d (List.mem_cons_of_mem _ hd)) q))
theorem loop_find {f : Value → α → Sem (ForInStep α)} {r r1 : α} {b : Value → Bool} : ∀ {cs : List Value} {Q : α → Shared → Prop}, (∀ c ∈ cs, ∀ Q' : ForInStep α → Shared → Prop, Q' (if b c then .done r1 else .yield r) s → wpAny M A (f c r) Q' E s) → Q (if cs.any b then r1 else r) s → wpAny M A (forIn cs r f) Q E s
  | [], Q, _, q => by
    simp only [List.forIn_nil]
    exact wpAny_pure q
  | c :: cs, Q, st, q => by
    simp only [List.forIn_cons]
    refine wpAny_bind (st c List.mem_cons_self _ ?_)
    rw [List.any_cons] at q
    cases hb : b c with
    | true =>
      rw [hb, Bool.true_or, if_pos rfl] at q
      exact wpAny_pure q
    | false =>
      rw [hb, Bool.false_or] at q
      exact loop_find (fun d hd => st d (List.mem_cons_of_mem _ hd)) q
end
theorem exm_all {K : PySem.W.Frag} {cls : Value} : ∀ {cs : List Value} {b : Bool}, PySem.W.exmAny K cls cs = some b → (∀ c ∈ cs, ∃ d, PySem.W.exmOne K cls c = some d) ∧ b = cs.any (fun c => PySem.W.exmOne K cls c == some true)
  | [], b, h => ⟨fun c hc => (nomatch hc), (Option.some.inj h).symm⟩
  | c :: cs, b, h => by
    obtain ⟨b1, d1, h1, h2, rfl⟩ := PySem.W.exmAny_cons h
    obtain ⟨r1, r2⟩ := exm_all h2
    refine ⟨fun d hd => ?_, ?_⟩
    · rcases List.mem_cons.mp hd with rfl | hd
      · exact ⟨b1, h1⟩
      · exact r1 d hd
    · rw [List.any_cons, ← r2, h1]
      cases b1 <;> rfl
theorem exm_tups {M : Model} {K : PySem.W.Frag} {cs : List Value} {cls : Value} {tp e : Addr} {b : Bool} {h : Heap} (X : K.In h) (LT : PySem.W.Looks M h (typeOf (.ref e)) cls) (hp : h.get? tp = some { cls := .type "tuple", data := .seq cs.toArray }) (hx : PySem.W.exmAny K cls cs = some b) :
    PySem.W.Looks M h (excMatches (.ref e) (.ref tp)) b := by
  intro A Q E s k₀ q
  obtain ⟨hh, g, d, tk, os⟩ := s
  have k : ∀ b o, h.get? b = some o → hh.get? b = some o := k₀
  have LT0 : PySem.W.Looks M h (isInstance (.ref tp) (.type "tuple")) true := ((PySem.W.Looks.ld hp).andThen .now).andThen (PySem.W.Looks.of_pure isSubtype_tuple_tuple)
  obtain ⟨all, eb⟩ := exm_all hx
  have LT := LT.keeps k
  have LT0 := LT0.keeps k
  have hp' := k _ _ hp
  unfold excMatches
  refine wpAny_bind (LT0.at ?_)
  dsimp only
  rw [if_pos rfl]
  first
    | refine wpAny_bind (wpAny_seqItems hp' rfl ?_)
    | refine wpAny_bind (wpAny_bind (wpAny_seqItems hp' rfl (wpAny_pure ?_)))
  dsimp only [Option.getD_some, Option.getD]
  refine wpAny_bind (wpAny_pure ?_)
  refine wpAny_bind (loop_all (fun c hc Q' q' => ?_) ?_)
  · obtain ⟨d1, h1⟩ := all c hc
    obtain ⟨e1, _⟩ := PySem.W.exm_cls (M := M) X h1
    have e1 := e1.keeps k
    refine wpAny_bind (e1.at ?_)
    simp only [Bool.not_true, Bool.false_eq_true, if_false]
    exact wpAny_pure q'
  · refine wpAny_bind (LT.at ?_)
    refine wpAny_bind (loop_find (b := fun c => PySem.W.exmOne K cls c == some true) (r1 := (some true, ())) (fun c hc Q' q' => ?_) ?_)
    · obtain ⟨d1, h1⟩ := all c hc
      obtain ⟨_, s1⟩ := PySem.W.exm_cls (M := M) X h1
      have s1 := s1.keeps k
      rw [h1] at q'
      refine wpAny_bind (s1.at ?_)
      cases d1 with
      | true => exact wpAny_pure q'
      | false => exact wpAny_pure q'
    · rw [← eb]
      cases b with
      | true => exact wpAny_pure q
      | false => exact wpAny_pure q
/-! ### several except clauses, each with a name for what is caught: a class or a tuple of classes each; what stands behind the last one that is read is not reached -/
inductive NamesL (X : Cx) : List Expr → List Value → Prop where
  | nil : NamesL X [] []
  | cons {x : Str} {c : Value} {np : Pos} {es : List Expr} {cs : List Value} (h : Names X x c) (r : NamesL X es cs) : NamesL X (.Name x np :: es) (c :: cs)
inductive TestX (X : Cx) : Expr → List Value → Prop where
  | one {x : Str} {c : Value} {np : Pos} (h : Names X x c) : TestX X (.Name x np) [c]
  | tup {es : List Expr} {cs : List Value} {k : Nat} {tpos : Pos} (h : NamesL X es cs) (hl : cs.length ≤ sizeLine) : TestX X (.Tuple es k tpos) cs
section
variable {X : Cx} {pins : List (Addr × Obj)} {σ : L2.St} {H : Hp} {s : Shared}
theorem name_run {x : Str} {c : Value} {np : Pos} {a : Addr} {pn : List (Addr × Obj)} (S : L2.Inv (X.suite a pn) pins σ H s) (hc : Names X x c) {Q E : Value → Shared → Prop} (q : Q c s) : wpAny (model X.prog X.w) (X.A.mark (some (Value.ref a))) (eval (Expr.Name x np) X.env) Q E s := by
  obtain ⟨hg, hdbg, hm | ⟨hm, hv, hnn⟩⟩ := hc
  · exact ld_glob (X := X.suite a pn) S hg hm q hdbg
  · exact ld_blt (X := X.suite a pn) S hg hm hv q hnn hdbg
theorem names_run {a : Addr} {pn : List (Addr × Obj)} {pos : Pos} (S : L2.Inv (X.suite a pn) pins σ H s) {E : Value → Shared → Prop} {es : List Expr} {cs : List Value} (h : NamesL X es cs) : ∀ {Q : List Value → Shared → Prop}, Q cs s → wpAny (model X.prog X.w) (X.A.mark (some (Value.ref a))) (spliced (backTo pos (starEach es X.env))) Q E s := by
  induction h with
  | nil => exact fun q => wpAny_items_nil q
  | cons hc r ih => exact fun q => wpAny_items_cons (name_run S hc (ih q))
theorem test_run {a : Addr} {pn : List (Addr × Obj)} {cls : Value} {b : Bool} {te : Expr} {cs : List Value} (S : L2.Inv (X.suite a pn) pins σ H s) (h : TestX X te cs) (LT : PySem.W.Looks (model X.prog X.w) s.heap (typeOf (.ref a)) cls) (hx : PySem.W.exmAny X.K cls cs = some b)
    {Q : Bool → Shared → Prop} {E1 E2 : Value → Shared → Prop} (q : ∀ h', (∀ b o, s.heap.get? b = some o → h'.get? b = some o) → Q b { s with heap := h' }) :
    wpAny (model X.prog X.w) (X.A.mark (some (Value.ref a))) (eval te X.env) (fun c s₁ => wpAny (model X.prog X.w) (X.A.mark (some (Value.ref a))) (excMatches (.ref a) c) Q E1 s₁) E2 s := by
  have KX : X.K.In s.heap := S.kIn
  cases h with
  | one hc =>
    obtain ⟨b1, d1, h1, h2, eb⟩ := PySem.W.exmAny_cons hx
    have e2 : false = d1 := Option.some.inj h2
    subst e2
    rw [Bool.or_false] at eb
    subst eb
    exact name_run S hc ((PySem.W.exm_one (M := model X.prog X.w) KX LT h1).here (q s.heap fun _ _ z => z))
  | tup hc hl =>
    refine wpAny_Tuple (names_run S hc ⟨hl, ?_⟩)
    have kp : ∀ b o, s.heap.get? b = some o → (s.heap.push { cls := .type "tuple", data := .seq cs.toArray }).get? b = some o := fun _ _ z => Heap.get?_push_of_some _ z
    exact (exm_tups (KX.keeps kp) (LT.keeps kp) (Heap.get?_push_size s.heap rfl) hx).here (q _ kp)
end
theorem flying_kept {B : Heap} {stk : List Env} {a : Addr} {Z : Obj → Prop} {h h' : Heap} (k : ∀ b o, h.get? b = some o → h'.get? b = some o) (f : HandSPX.FlyingZ B stk a Z h) : HandSPX.FlyingZ B stk a Z h' := by
  obtain ⟨f1, f2, f3, oe, vs, T, oT, ts, he, hz, hd, h1, hnT, hTe, hT, hdT, h3⟩ := f
  exact ⟨fun b o e => k b o (f1 b o e), f2, f3.of_keeps fun b o e _ => ⟨o, k b o e, rfl⟩, oe, vs, T, oT, ts, k _ _ he, hz, hd, h1, hnT, hTe, k _ _ hT, hdT, h3⟩
abbrev Clause := List Value × Nat × (Addr → Value → Option Addr → TS)
inductive Hds (X : Cx) : List ExceptHandler → List Clause → Prop where
  | nil {hds : List ExceptHandler} : Hds X hds []
  | cons {te : Expr} {n : Str} {cs : List Value} {i : Nat} {ts : Addr → Value → Option Addr → TS} {b₀ : Stmt} {suite : List Stmt} {pos' : Pos} {hds : List ExceptHandler} {l : List Clause}
      (hi : X.N[i]? = some n) (hln : X.env.kindOf n = some NameKind.local) (hc : TestX X te cs)
      (hsu : ∀ (a : Addr) (oe : Obj) (cls : Value) (d : Option Addr) (pn : List (Addr × Obj)), Zc cls d oe → (∃ vs, oe.data = Data.fields vs) → PSs (X.suite a ((a, oe) :: pn)) (b₀ :: suite) (ts a cls d))
      (r : Hds X hds l) : Hds X (ExceptHandler.ExceptHandler (some te) (some n) (b₀ :: suite) pos' :: hds) ((cs, i, ts) :: l)
def outX (D : Ends) (i : Nat) : Ends := { nx := fun σ' H' => D.nx (List.set σ' i none) H', rt := D.rt, bk := fun σ' H' => D.bk (List.set σ' i none) H', ct := fun σ' H' => D.ct (List.set σ' i none) H' }
def wMany (K : PySem.W.Frag) (n : Nat) (D : Ends) : List Clause → WX
  | [] => fun _ _ _ _ => False
  | (cs, i, ts) :: r => fun cls d σ H => ∃ b, PySem.W.exmAny K cls cs = some b ∧ (b = true → σ.length = n → ∀ a, H a = none → ts a cls d (outX D i) (List.set σ i (some (.ref a))) H) ∧ (b = false → wMany K n D r cls d σ H)
theorem handle_X {X : Cx} (ok : X.Ok) (hN : X.N.Nodup) {pins : List (Addr × Obj)} {σ : L2.St} {H : Hp} {cls : Value} {d : Option Addr} {a : Addr} {B : Heap} {stk : List Env} {D : Ends}
    (na : H a = none) (nL : a ≠ X.env.locals) (nF : ¬ a ∈ X.fs) {hds : List ExceptHandler} {l : List Clause} (h : Hds X hds l) :
    ∀ {s3 : Shared}, HandSPX.FlyingZ B stk a (Zc cls d) s3.heap → L2.Inv X pins σ H s3 →
    (∀ h4, HandSPX.FlyingZ B stk a (Zc cls d) h4 → s3.heap.UpToSlots h4 → L2.Inv X pins σ H { s3 with heap := h4 }) →
    wMany X.K X.N.length D l cls d σ H → wpAny (model X.prog X.w) X.A (handleBy (Value.ref a) X.env hds) (SP X pins D) X.xe s3 := by
  induction h with
  | nil => exact fun _ _ _ w => w.elim
  | @cons te n cs i ts b₀ suite pos' hds l hi hln hc hsu r ih =>
    rintro s3 fl J3 land ⟨b, hb1, hyes, hno⟩
    obtain ⟨oe3, vs3, he3, hz3, hd3⟩ := HandSPX.FlyingZ.there fl
    have S3 := Inv.suite J3 he3 hd3 na nL nF
    refine wpAny_handleBy_cons (codeAny_handlers_test ?_) (by intro e; cases e)
    have LT : PySem.W.Looks (model X.prog X.w) s3.heap (typeOf (Value.ref a)) cls := fun A Q E s k q => wpAny_typeOf_ref (k a oe3 he3) (by rw [hz3.1]; exact q)
    refine test_run S3 hc LT hb1 fun h' kp => ?_
    have fl' := flying_kept kp fl
    have J' : L2.Inv X pins σ H { s3 with heap := h' } := J3.kept (t' := s3.toks) kp
    have land' : ∀ h4, HandSPX.FlyingZ B stk a (Zc cls d) h4 → h'.UpToSlots h4 → L2.Inv X pins σ H { s3 with heap := h4 } := fun h4 f4 u4 => land h4 f4 (Heap.UpToSlots.trans (fun b o e _ => ⟨o.slots, kp b o e⟩) u4)
    cases b with
    | false => exact ih fl' J' land' (hno rfl)
    | true =>
      refine codeAny_handlers_suite_as (HandSPX.lands_againZ fl' fun h4 fl4 up4 => ?_)
      have J4 := land' h4 fl4 up4
      obtain ⟨oe4, vs4, he4, hz4, hd4⟩ := HandSPX.FlyingZ.there fl4
      have S4 := Inv.suite J4 he4 hd4 na nL nF
      refine store_ok (X := X.suite a ((a, oe4) :: (X.pn ++ pins))) (v := .ref a) S4 hN hi (.inl hln) rfl (fun s5 S5 => ?_) (.inr hln)
      refine wpAny_mono ((hsu a oe4 cls d (X.pn ++ pins) hz4 ⟨vs4, hd4⟩).run [] s5 _ _ (outX D i) S5 (hyes rfl J3.len a na)) (fun f s6 hsp => ?_) (fun e s6 he => he.elim)
      cases f with
      | next =>
        obtain ⟨σ6, H6, S6, q6⟩ := hsp
        exact gone_ok (Inv.unsuite S6 ok) hN hi hln fun s7 J7 => ⟨_, H6, J7, q6⟩
      | brk =>
        obtain ⟨σ6, H6, S6, q6⟩ := hsp
        exact gone_ok (Inv.unsuite S6 ok) hN hi hln fun s7 J7 => ⟨_, H6, J7, q6⟩
      | cont =>
        obtain ⟨σ6, H6, S6, q6⟩ := hsp
        exact gone_ok (Inv.unsuite S6 ok) hN hi hln fun s7 J7 => ⟨_, H6, J7, q6⟩
      | ret u =>
        obtain ⟨v, σ6, H6, S6, r6, q6⟩ := hsp
        exact gone_ok (Inv.unsuite S6 ok) hN hi hln fun s7 J7 => ⟨v, _, H6, J7, r6, q6⟩
theorem ps_try_X {X : Cx} {body : List Stmt} {h₀ : ExceptHandler} {hds : List ExceptHandler} {l : List Clause} {pos : Pos} {tb : WX → TS}
    (hs : X.stack = X.env :: X.outer) (hf : X.env.frame = some X.env.locals) (hN : X.N.Nodup)
    (hb : ∀ (W : WX) (pn : List (Addr × Obj)) (xe : Value → Shared → Prop), Takes (X.tr pn xe) W → PassesOwn (model X.prog X.w) X.A X.env xe → PSs (X.tr pn xe) body (tb W))
    (hh : Hds X (h₀ :: hds) l) : PS X (Stmt.Try body (h₀ :: hds) [] [] pos) fun D σ H => tb (wMany X.K X.N.length D l) D σ H := by
  refine ⟨fun pins s σ H D I h => ?_⟩
  have ok := I.ok
  have hfr : X.A.frames = some (X.env :: X.outer) := by rw [ok.frames, hs]
  refine wpAny_Try_except (wpAny_mono ((hb (wMany X.K X.N.length D l) (X.pn ++ pins) _ (fun u s' xx => ?_) PassesOwn.looking).run [] s σ H D (Inv.toTry I _) h) (fun f s1 hsp => ?_) fun e s1 he => he)
  · obtain ⟨a, B, sI, pins', σ', H', cls, d, rfl, J', nb, up, sky, na, os, ag, w⟩ := xx
    have J := Inv.ofTry J' ok
    have sky' : Sky B (X.env :: X.outer) a (Zc cls d) X.env.locals s'.heap := by
      rw [← hs]
      exact sky
    refine Sky.land Zc.steady hfr hf sky' fun h3 fl3 up3 => ?_
    obtain ⟨oe3, vs3, he3, hz3, hd3⟩ := HandSPX.FlyingZ.there fl3
    have nfr : ¬ a ∈ List.filterMap (fun x => x.frame) (X.env :: X.outer) := fun hm => by
      obtain ⟨_, o', e', hnf⟩ := Heap.FunFrames.mem fl3.2.2.1 hm
      rw [he3] at e'
      cases e'
      exact hnf _ hd3
    have nL : a ≠ X.env.locals := fun z => nfr (List.mem_filterMap.mpr ⟨X.env, List.mem_cons_self, by rw [hf, z]⟩)
    have nF : ¬ a ∈ X.fs := fun hm => by
      obtain ⟨e, he, q⟩ := List.mem_filterMap.mp hm
      exact nfr (List.mem_filterMap.mpr ⟨e, List.mem_cons_of_mem X.env he, q⟩)
    exact handle_X (s3 := { heap := h3, gens := s'.gens, drawn := s'.drawn, toks := s'.toks, os := s'.os }) ok hN na nL nF hh fl3 (Inv.landed J nb fl3.1 (Heap.UpToSlots.trans up up3) os ag) (fun h4 fl4 up4 => Inv.landed J nb fl4.1 (Heap.UpToSlots.trans (Heap.UpToSlots.trans up up3) up4) os ag) w
  · cases f with
    | next =>
      obtain ⟨σ', H', J', q⟩ := hsp
      exact wpAny_execs_nil ⟨σ', H', Inv.ofTry J' ok, q⟩
    | brk =>
      obtain ⟨σ', H', J', q⟩ := hsp
      exact ⟨σ', H', Inv.ofTry J' ok, q⟩
    | cont =>
      obtain ⟨σ', H', J', q⟩ := hsp
      exact ⟨σ', H', Inv.ofTry J' ok, q⟩
    | ret u =>
      obtain ⟨v, σ', H', J', r, q⟩ := hsp
      exact ⟨v, σ', H', Inv.ofTry J' ok, r, q⟩
/-! ### a def read off a class of the program and called: C.m(o, ..) -/
theorem pe_cfun {X : Cx} {CX : CXT} {k : Nat} {C f : Addr} {mc : Value} {fd : FuncData} {ps : List Str} {sp : Sp} {dvs : List V} {ds : List Value} {E : XK} {x m : Str} {p apos pos : Pos} {e : Expr} {es : List Expr} {t : TA} {pl : Sem Bool}
    (F : FnOk X.prog X.w X.K X.mg X.base CX k f fd ps sp) (hr : Room k X.A) (hg : Gl X x) (hm : X.mg x = some (Value.ref C)) (r : ClX.CRead X.K C mc)
    (hv : PySem.W.findCls X.K (Value.ref C) mc m = some (PySem.W.CFound.val (Value.ref f))) (hk : PySem.W.keepIn X.K (Value.ref f) = true) (hb : L2.Binds X.K fd ps ds) (hd : Vals dvs ds) (hx : Passes CX X E) (ha : PA X (e :: es) t)
    (hdb : (x == Str.ofString "__debug__") = false := by rfl)
    (hst : starEach (e :: es) X.env = (false, eval e X.env) :: starEach es X.env := by rfl)
    (hpl : ((backTo pos (starEach es X.env)).any fun x => x.fst) = false := by rfl)
    (ht : eval (((Expr.Name x p).Attribute m apos).Call (e :: es) [] pos) X.env = (do
        let ov ← eval (Expr.Name x p) X.env
        standAt apos.atName
        let __x ← holding [ov] (getMethod ov m pl)
        match __x with
        | (f, first) => callWith pos f first (backTo pos (starEach (e :: es) X.env)) (backToKw pos (keywordEach [] X.env))) := by rfl) :
    PE X (((Expr.Name x p).Attribute m apos).Call (e :: es) [] pos) (tCall sp dvs E t) := by
  refine ⟨fun pins s σ H Q I h => ?_⟩
  refine PySem.W.methodCall_KW (ld_glob I hg hm ?_ hdb) ht
  refine PySem.W.method_cls (Inv.kIn I) r.ga (PySem.W.cls_value (Inv.kIn I) r.rd hv rfl ?_)
  have I1 := Inv.tok I (s.toks + 1)
  refine PySem.W.callWith_K I.ok.mod.kin hk ?_ hst hpl
  refine thn (ha.run pos pins _ σ H (fun vs H1 => sp (vs ++ dvs) H1 Q E) I1 h) fun us s1 z => ?_
  obtain ⟨vs, H1, I2, rv, q⟩ := z
  exact ⟨Inv.kIn I2, run_fn F hr hb hd hx I2 rv q⟩
end OGX

set_option Elab.async false
set_option linter.all false
set_option maxRecDepth 100000
set_option maxHeartbeats 4000000
namespace OGX
open PySem PySem.Spec PyProof.Rows L2 OG L2H
/-! ### a def called in an except suite: its promise is told of the exception that is handled -/
abbrev SpX := Addr → Value → Option Addr → Sp
structure FnX (P : Program) (w : World) (K : PySem.W.Frag) (mg : Str → Option Value) (base : Heap) (k : Nat) (f : Addr) (fd : FuncData) (ps : List Str) (sp : SpX) : Prop where
  len : ∀ a cls d vs H Q E, sp a cls d vs H Q E → vs.length = ps.length
  run : ∀ (A : Around) (outer : List Env) (s : Shared) (H : Hp) (args : Args) (us : List Value) (vs : List V) (Q : VK) (E : XK) (a : Addr) (oe : Obj) (cls : Value) (d : Option Addr), RoomH k A → Zc cls d oe → (∃ vs, oe.data = Data.fields vs) → PinOk outer H s (a, oe) → Env0 P w K mg base A outer s H → BindsTo s fd args (ps.zip us) → Vals vs us → sp a cls d vs H Q E →
    codeAny (model P w) A (.call (.ref f) args) (CR C8.CX0 outer P w H s Q E) s
theorem fn_ofX {P : Program} {w : World} {K : PySem.W.Frag} {mg : Str → Option Value} {base : Heap} {k : Nat} {f : Addr} {name qual : Str} {params : Arguments} {body : List Stmt} {scope : Scope} {dV kV doc pm cdv ct oc : Value} {an od : Option Addr}
    {osl : Array (Option Value)} {N ps : List Str} {sp : SpX} (lk : K.lookup f = some ⟨oc, od, .func (PySem.W.fnOf name qual params body scope dV kV doc pm an cdv ct), osl⟩) (hcd : PySem.W.codeIn K cdv qual = true) (S : FnScope N ps scope)
    (len : ∀ a cls d vs H Q E, sp a cls d vs H Q E → vs.length = ps.length)
    (hbody : ∀ (A : Around) (outer : List Env) (s : Shared) (H : Hp) (vs : List V) (Q : VK) (E : XK) (a : Addr) (oe : Obj) (cls : Value) (d : Option Addr), Zc cls d oe → (∃ vs, oe.data = Data.fields vs) → RoomH k (A.deeper (envOfC qual scope s.heap.objs.size f cdv)) → sp a cls d vs H Q E →
      ∃ t, PSs (cxH C8.CX0 P w K mg base N qual scope f cdv A outer s H E (a, oe)) body t ∧ t { nx := fun _ H' => Q .non H', rt := Q } (L2.start N vs) H) :
    FnX P w K mg base (k + 1) f (PySem.W.fnOf name qual params body scope dV kV doc pm an cdv ct) ps sp := by
  constructor
  · exact len
  intro A outer s H args us vs Q E a oe cls d room isZ isF pin around bound vals told
  have stays : ∀ {b : Addr} {o : Obj}, base.get? b = some o → s.heap.get? b = some o := fun {b o} z => (around.bs b o z).1
  have written : K.In s.heap := around.mod.kin.keeps fun _ _ z => stays z
  have kinds : ∀ y ∈ ps.zip us, scope.names.lookup y.1 = some .local ∨ (scope.names.lookup y.1 = some .cell ∧ ((cellsFrom (s.heap.objs.size + 1) scope.names []).lookup y.1).isSome = true) := by
    intro y hy
    have := S.par y.1 (List.of_mem_zip (a := y.1) (b := y.2) hy).1
    exact this.imp id fun z => And.intro z (PySem.W.cellsFrom_some _ _ _ (.inl z))
  refine codeAny_call_function room.depth (written _ _ lk) rfl S.co S.gen rfl (PySem.W.codeRec_of written hcd) (bound _ _ _ _ (wpAny_newFunctionEnv_cells S.kind kinds ?_))
  rintro env rfl s1 inside
  refine ⟨(around.mod.nolimit.keeps fun _ _ z => stays z).keeps inside.toInCall.keep, codeAny_func ?_⟩
  obtain ⟨reading, rule, holds⟩ := hbody A outer s H vs Q E a oe cls d isZ isF (room.deeper _) told
  have J0 := inv_startH (CX := C8.CX0) (E := E) S pin around (len _ _ _ _ _ _ _ told) vals inside
  have ran := rule.run [] s1 _ H _ J0 holds
  refine wpAny_mono ran ?_ fun _ _ z => z
  rintro (_ | _ | _ | u) s' ends
  all_goals first
    | (obtain ⟨v, σ', H', J, rv, z⟩ := ends; exact ⟨v, H', J.os, J.bare, J.base, J.hok, rv, z⟩)
    | (obtain ⟨σ', H', J, z⟩ := ends; exact ⟨V.non, H', J.os, J.bare, J.base, J.hok, rfl, z⟩)
    | (obtain ⟨_, _, _, z⟩ := ends; exact False.elim z)
def tCallX (sp : SpX) (a : Addr) (cls : Value) (d : Option Addr) (t : TA) : TE := fun σ H Q => t σ H fun vs H1 => sp a cls d vs H1 Q (fun _ _ _ => False)
section
variable {X : Cx} {k : Nat} {f a : Addr} {oe : Obj} {cls : Value} {d : Option Addr} {pn : List (Addr × Obj)} {fd : FuncData} {ps : List Str} {sp : SpX} {x : Str} {q pos : Pos} {e : Expr} {es : List Expr} {t : TA}
theorem pe_callX (F : FnX X.prog X.w X.K X.mg X.base k f fd ps sp) (hr : RoomH k X.A) (hz : Zc cls d oe) (hf : ∃ vs, oe.data = Data.fields vs) (hg : Gl X x) (hm : X.mg x = some (.ref f)) (hk : PySem.W.keepIn X.K (.ref f) = true) (hb : L2.Binds X.K fd ps [])
    (ha : PA (X.suite a ((a, oe) :: pn)) (e :: es) t) (hdb : (x == ("__debug__" : Str)) = false := by decide) (he : starEach (e :: es) X.env = (false, eval e X.env) :: starEach es X.env := by rfl) (hpl : (backTo pos (starEach es X.env)).any (·.1) = false := by rfl) :
    PE (X.suite a ((a, oe) :: pn)) (.Call (.Name x q) (e :: es) [] pos) (tCallX sp a cls d t) := by
  refine ⟨fun pins s σ H Q I h => ?_⟩
  refine wpAny_Call_Name_kw (ld_glob (X := X.suite a ((a, oe) :: pn)) I hg hm ?_ hdb)
  refine PySem.W.callWith_K (h₀ := X.base) I.ok.mod.kin hk (thn (ha.run pos pins s σ H _ I h) fun us s1 ⟨vs, H1, I1, r, q⟩ => ⟨I1.kIn, ?_⟩) he hpl
  have hl : us.length = ps.length := by rw [← r.length]; exact F.len _ _ _ _ _ _ _ q
  have b := hb s1 us I1.kIn (by rw [List.append_nil]; exact hl)
  rw [List.append_nil] at b
  have P1 := I1.pin (a, oe) (List.mem_append_left _ List.mem_cons_self)
  have hpin : PinOk X.stack H1 s1 (a, oe) := ⟨P1.1, P1.2.1, fun hm => (List.mem_cons.mp (I1.stkSub a hm)).elim P1.2.2.1 P1.2.2.2.1, P1.2.2.2.2⟩
  refine wpAny_call (codeAny_mono (F.run (X.suite a ((a, oe) :: pn)).A X.stack s1 H1 ⟨us, []⟩ us vs Q (fun _ _ _ => False) a oe cls d ⟨hr.dp, hr.un⟩ hz hf hpin I1.env0 b r q) fun r s' hq => ?_)
  cases r with
  | error e => exact (show False from hq).elim
  | ok fl =>
    cases fl with
    | ret u => exact I1.after hq
    | next => exact False.elim hq
    | brk => exact False.elim hq
    | cont => exact False.elim hq
end
/-! ### isinstance of an exception that has fields; its fields -/
def rIsX (K : PySem.W.Frag) (a : Addr) (cls : Value) (d : Option Addr) : List V → Hp → VK → Prop := fun xs H Q => ∃ (D dd : Addr) (fs : List (Str × V)) (c : V) (cv : Value) (b : Bool), xs = [.ref a, c] ∧ cls = .ref D ∧ d = some dd ∧ ExcC K D ∧ H dd = some (.xd fs) ∧ (∀ u, RelV c u → u = cv) ∧ PySem.W.kitOne K (.ref D) cv = some b ∧ Q (.bl b) H
section
variable {X : Cx} {a : Addr} {oe : Obj} {cls : Value} {d : Option Addr}
theorem call_isX (hp : (a, oe) ∈ X.pn) (hz : Zc cls d oe) (hf : ∃ vs, oe.data = .fields vs) : CallR X (.builtin "isinstance") (rIsX X.K a cls d) := by
  intro pins s σ H xs us Q I r h
  obtain ⟨D, dd, fs, c, cv, b, rfl, rfl, rfl, C, ea, hcv, e, q⟩ := h
  cases r with
  | cons rx rr =>
    cases rr with
    | cons rt rr =>
      cases rr
      cases rx
      have ec := hcv _ rt
      subst ec
      obtain ⟨hget, _⟩ := I.pin (a, oe) (List.mem_append.mpr (.inl hp))
      obtain ⟨vs, hv⟩ := hf
      have hx : ObjOk X.prog X.w H s.heap dd (.xd fs) := I.hok dd _ ea
      obtain ⟨mA, hns, hr⟩ := hx
      obtain ⟨od, ho, hl⟩ := lookIn_ns hns
      have J : PySem.W.InstAt s.heap a oe D (some od) := ⟨hget, hz.1, by unfold PySem.W.notCls; rw [hv] <;> rfl, by rw [hz.2]; exact ho⟩
      have hcl : (PySem.W.clsIn X.K D).isSome = true := by
        have hd := C.hd
        unfold PySem.W.hasDictIn at hd
        cases hc : PySem.W.clsIn X.K D with
        | none => rw [hc] at hd; cases hd
        | some _ => rfl
      exact PySem.W.kia_one (PySem.W.kitx_exc hcl C.hg C.hk C.hs C.ha C.hn C.ht C.hm) I.kIn J e (fun z => nomatch z) fun tk => ⟨.bl b, H, I.kept (t' := tk) fun _ _ z => z, rfl, q⟩
theorem pe_xfX {C : Addr} {e : Expr} {te : TE} {pos : Pos} {n : Str} (hp : (a, oe) ∈ X.pn) (T : XfC X.K C) (hno : PySem.W.findIn X.K (.ref C) n = some none) (hz : Zc cls d oe) (hf : ∃ vs, oe.data = .fields vs) (he : PE X e te)
    (hb : attributeBase e n X.env (eval e X.env) = eval e X.env := by rfl) : PE X (.Attribute e n pos) (tXf a cls d C n te) := by
  have field : ∀ {pins : List (Addr × Obj)} {s1 : Shared} {σ : L2.St} {H1 : Hp} {Q : VK} {dd : Addr} {fs : List (Str × V)} {v : V}, L2.Inv X pins σ H1 s1 → H1 dd = some (.xd fs) → fs.lookup n = some v → Zc (.ref C) (some dd) oe → Q v H1 →
      wpAny (model X.prog X.w) X.A (getAttr (.ref a) n true) (EP X pins σ Q) X.xe s1 := fun {pins s1 σ H1 Q dd fs v} J1 hdd hlk hzz hq => by
    obtain ⟨fvs, hfv⟩ := hf
    have there := (J1.pin (a, oe) (List.mem_append_left _ hp)).1
    have dct : ObjOk X.prog X.w H1 s1.heap dd (.xd fs) := J1.hok dd _ hdd
    obtain ⟨names, isNs, told⟩ := dct
    obtain ⟨dobj, dget, dlook⟩ := lookIn_ns isNs
    have rel := told n
    rw [hlk] at rel
    obtain ⟨fval, hfval, rfval⟩ := RelO.some_of rel
    have inst : PySem.W.InstAt s1.heap a oe C (some dobj) := ⟨there, hzz.1, (by unfold PySem.W.notCls; rw [hfv]), (by rw [hzz.2]; exact dget)⟩
    have found : PySem.W.findObj X.K C (some dobj) n = some (.value fval) := PySem.W.findObj_own T.hdC hno rfl (by rw [dlook n, hfval])
    exact HandSPX.exc_get J1.kIn inst T.ga T.gg T.exC found (handed_of rfval) ⟨v, H1, J1.tok _, rfval, hq⟩
  constructor
  intro pins s σ H Q I h
  have base := he.run pins s σ H _ I h
  refine attr_of hb (thn base ?_)
  rintro u s1 ⟨x, H1, J1, rx, rfl, rfl, dd, fs, v, rfl, hdd, hlk, hq⟩
  cases rx
  exact field J1 hdd hlk hz hq
end
end OGX

set_option Elab.async false
set_option linter.all false
set_option maxRecDepth 100000
set_option maxHeartbeats 4000000
namespace OG
open PySem PySem.Spec PyProof.Rows L2
/-! ### a place as a text -/
theorem at_log {n : Nat} (h : n < 100000) : ((n : Nat) : Int).natAbs.log2 < 101 := by
  have : ((n : Nat) : Int).natAbs < 2 ^ 101 := by
    have e : ((n : Nat) : Int).natAbs = n := by omega
    rw [e]
    exact Nat.lt_trans h (by decide)
  exact PySem.Flt.log2_lt_of (by decide) this
theorem at_len {n : Nat} (h : n < 100000) : (toString ((n : Nat) : Int) : Str).length ≤ 102 := by
  have := int_text_length_le (a := ((n : Nat) : Int)) (k := 101) (by decide) (at_log h)
  have e : (toString ((n : Nat) : Int) : Str).length = (toString ((n : Nat) : Int) : String).length := by
    show (Str.ofString (toString ((n : Nat) : Int))).length = _
    exact PySem.ofString_length _
  rw [e]
  exact this
/-! ### the signs of any text -/
def sgLen : List Nat → Option Nat
  | [] => none
  | c :: r =>
    if c ∈ abc then (if run abc (c :: r) ≤ 8 then some (run abc (c :: r)) else none)
    else if c ∈ dig then (if (c = 48 ∧ 1 < run dig (c :: r)) ∨ 2 < run dig (c :: r) then none else some (run dig (c :: r)))
    else if c ∈ one5 then some 1
    else if c = 60 ∧ r.head? = some 61 then some 2 else none
theorem sg_cons (c : Nat) (r : List Nat) : sgLen (c :: r) =
    if c ∈ abc then (if run abc (c :: r) ≤ 8 then some (run abc (c :: r)) else none)
    else if c ∈ dig then (if (c = 48 ∧ 1 < run dig (c :: r)) ∨ 2 < run dig (c :: r) then none else some (run dig (c :: r)))
    else if c ∈ one5 then some 1
    else if c = 60 ∧ r.head? = some 61 then some 2 else none := rfl
inductive LR where
  | ok (s : List (Str × Nat))
  | bad (p : Nat)
def LR.pre (d : List (Str × Nat)) : LR → LR
  | .ok s => .ok (d ++ s)
  | .bad p => .bad p
def lexW (l : List Nat) (p : Nat) : LR :=
  match l with
  | [] => .ok []
  | c :: r =>
    if c = 32 then lexW r (p + 1)
    else match sgLen (c :: r) with
      | none => .bad p
      | some k => (lexW (r.drop (k - 1)) (p + k)).pre [(S ((c :: r).take k), p)]
termination_by l.length
decreasing_by
  all_goals simp_wf
  all_goals (try rw [List.length_drop])
  all_goals omega
theorem lex_nil (p : Nat) : lexW [] p = .ok [] := by rw [lexW]
theorem lex_blank (r : List Nat) (p : Nat) : lexW (32 :: r) p = lexW r (p + 1) := by rw [lexW, if_pos rfl]
theorem lex_bad {c : Nat} {r : List Nat} {p : Nat} (h : c ≠ 32) (k : sgLen (c :: r) = none) : lexW (c :: r) p = .bad p := by
  rw [lexW, if_neg h, k]
theorem lex_sign {c k : Nat} {r : List Nat} {p : Nat} (h : c ≠ 32) (e : sgLen (c :: r) = some k) (k1 : 1 ≤ k) : lexW (c :: r) p = (lexW ((c :: r).drop k) (p + k)).pre [(S ((c :: r).take k), p)] := by
  rw [lexW, if_neg h, e]
  have : (c :: r).drop k = r.drop (k - 1) := by
    obtain ⟨j, rfl⟩ : ∃ j, k = j + 1 := ⟨k - 1, by omega⟩
    rfl
  rw [this]
theorem pre_pre (a b : List (Str × Nat)) (r : LR) : (r.pre b).pre a = r.pre (a ++ b) := by
  cases r with
  | ok s => show LR.ok (a ++ (b ++ s)) = .ok (a ++ b ++ s); rw [List.append_assoc]
  | bad p => rfl
theorem pre_nil (r : LR) : r.pre [] = r := by cases r <;> rfl
theorem run_pos {k : List Nat} {c : Nat} {r : List Nat} (h : c ∈ k) : 1 ≤ run k (c :: r) := by rw [run_in h]; omega
theorem run_le {k : List Nat} : ∀ l : List Nat, run k l ≤ l.length
  | [] => Nat.le_refl _
  | c :: r => by
    by_cases h : c ∈ k
    · rw [run_in h, List.length_cons]
      have := run_le (k := k) r
      omega
    · rw [run_out h]
      exact Nat.zero_le _
theorem run_mem {k : List Nat} : ∀ l : List Nat, ∀ c ∈ l.take (run k l), c ∈ k
  | [], c, h => by simp [run_nil] at h
  | d :: r, c, h => by
    by_cases hd : d ∈ k
    · rw [run_in hd, Nat.add_comm, List.take_succ_cons] at h
      rcases List.mem_cons.mp h with rfl | h
      · exact hd
      · exact run_mem r c h
    · rw [run_out hd] at h
      cases h
theorem sgLen_pos {l : List Nat} {k : Nat} (h : sgLen l = some k) : 1 ≤ k ∧ k ≤ l.length := by
  cases l with
  | nil => cases h
  | cons c r =>
    rw [sg_cons] at h
    split at h
    · rename_i hc
      split at h
      · cases h
        exact ⟨run_pos hc, run_le _⟩
      · cases h
    · split at h
      · rename_i hc
        split at h
        · cases h
        · cases h
          exact ⟨run_pos hc, run_le _⟩
      · split at h
        · cases h
          exact ⟨Nat.le_refl _, by rw [List.length_cons]; omega⟩
        · split at h
          · rename_i hc
            cases h
            refine ⟨by omega, ?_⟩
            cases r with
            | nil => cases hc.2
            | cons d s => rw [List.length_cons, List.length_cons]; omega
          · cases h
/-! what a sign is -/
inductive Tk : Str → Prop where
  | emp : Tk ""
  | word {w : List Nat} (h0 : w ≠ []) (h1 : ∀ c ∈ w, c ∈ abc) (h2 : w.length ≤ 8) : Tk (S w)
  | num {k : Int} (h0 : 0 ≤ k) (h1 : k ≤ 99) : Tk (num k)
  | one {s : Str} (h : s ∈ (["(", ")", ";", "+", "-", "<="] : List Str)) : Tk s
def numOf (s : Str) : Option Int := if Txt.isdigit s = true then PySem.intText? s else none
theorem num_dig1 : ∀ c ∈ dig, ∃ k : Int, 0 ≤ k ∧ k ≤ 99 ∧ S [c] = num k := by
  have h : dig.all (fun c => (List.range 100).any (fun k => decide (S [c] = num (k : Int)))) = true := by decide +kernel
  intro c hc
  obtain ⟨k, hk, e⟩ := List.any_eq_true.mp (List.all_eq_true.mp h c hc)
  exact ⟨k, by omega, by have := List.mem_range.mp hk; omega, of_decide_eq_true e⟩
theorem num_dig2 : ∀ c ∈ dig, c ≠ 48 → ∀ d ∈ dig, ∃ k : Int, 0 ≤ k ∧ k ≤ 99 ∧ S [c, d] = num k := by
  have h : dig.all (fun c => decide (c = 48) || dig.all (fun d => (List.range 100).any (fun k => decide (S [c, d] = num (k : Int))))) = true := by decide +kernel
  intro c hc n d hd
  have h1 := List.all_eq_true.mp h c hc
  rw [decide_eq_false n, Bool.false_or] at h1
  obtain ⟨k, hk, e⟩ := List.any_eq_true.mp (List.all_eq_true.mp h1 d hd)
  exact ⟨k, by omega, by have := List.mem_range.mp hk; omega, of_decide_eq_true e⟩
theorem one_sign : ∀ c ∈ one5, S [c] ∈ (["(", ")", ";", "+", "-", "<="] : List Str) := by
  have h : one5.all (fun c => decide (S [c] ∈ (["(", ")", ";", "+", "-", "<="] : List Str))) = true := by decide +kernel
  exact fun c hc => of_decide_eq_true (List.all_eq_true.mp h c hc)
theorem sgLen_tk {l : List Nat} {k : Nat} (h : sgLen l = some k) : Tk (S (l.take k)) ∧ S (l.take k) ≠ "" := by
  have hp := sgLen_pos h
  have ne : S (l.take k) ≠ "" := fun z => by
    have e := congrArg Str.length z
    rw [len_S, List.length_take, Nat.min_eq_left hp.2] at e
    have : ("" : Str).length = 0 := by decide +kernel
    omega
  refine ⟨?_, ne⟩
  cases l with
  | nil => cases h
  | cons c r =>
    rw [sg_cons] at h
    split at h
    · rename_i hc
      split at h
      · rename_i h8
        cases h
        refine .word (fun z => ?_) (run_mem _) ?_
        · have := congrArg List.length z
          rw [List.length_take, Nat.min_eq_left (run_le _)] at this
          have := run_pos (r := r) hc
          simp only [List.length_nil] at *
          omega
        · rw [List.length_take, Nat.min_eq_left (run_le _)]
          exact h8
      · cases h
    · split at h
      · rename_i hc
        split at h
        · cases h
        · rename_i hn
          cases h
          have hl := run_le (k := dig) (c :: r)
          have hm := run_mem (k := dig) (c :: r)
          have hlen : ((c :: r).take (run dig (c :: r))).length = run dig (c :: r) := by rw [List.length_take, Nat.min_eq_left hl]
          have h1 := run_pos (r := r) hc
          have h2 : run dig (c :: r) ≤ 2 := by
            by_cases z : 2 < run dig (c :: r)
            · exact absurd (.inr z) hn
            · omega
          have hh : run dig (c :: r) = 1 ∨ run dig (c :: r) = 2 := by omega
          rcases hh with e | e
          · rw [e]
            obtain ⟨k, k0, k9, ek⟩ := num_dig1 c hc
            show Tk (S [c])
            rw [ek]
            exact .num k0 k9
          · rw [e] at hm hlen ⊢
            cases r with
            | nil => simp at hlen
            | cons d s =>
              have hd : d ∈ dig := hm d (by simp)
              have n48 : c ≠ 48 := fun z => hn (.inl ⟨z, by omega⟩)
              obtain ⟨k, k0, k9, ek⟩ := num_dig2 c hc n48 d hd
              show Tk (S [c, d])
              rw [ek]
              exact .num k0 k9
      · split at h
        · rename_i hc
          cases h
          exact .one (one_sign c hc)
        · split at h
          · rename_i hc
            cases h
            cases r with
            | nil => cases hc.2
            | cons d s =>
              have e1 : c = 60 := hc.1
              have e2 : d = 61 := Option.some.inj hc.2
              subst e1 e2
              refine .one ?_
              show S [60, 61] ∈ _
              decide +kernel
          · cases h
theorem lex_tk : ∀ (n : Nat) (l : List Nat) (p : Nat) (s : List (Str × Nat)), l.length ≤ n → lexW l p = .ok s → (∀ x ∈ s, Tk x.1 ∧ x.1 ≠ "" ∧ x.2 ≤ p + l.length) ∧ s.length ≤ l.length
  | 0, l, p, s, hl, h => by
    cases l with
    | nil =>
      rw [lex_nil] at h
      cases h
      exact ⟨fun x hx => (by cases hx), Nat.le_refl _⟩
    | cons c r => rw [List.length_cons] at hl; omega
  | n + 1, l, p, s, hl, h => by
    cases l with
    | nil =>
      rw [lex_nil] at h
      cases h
      exact ⟨fun x hx => (by cases hx), Nat.le_refl _⟩
    | cons c r =>
      rw [List.length_cons] at hl
      by_cases h32 : c = 32
      · subst h32
        rw [lex_blank] at h
        obtain ⟨i1, i2⟩ := lex_tk n r (p + 1) s (by omega) h
        refine ⟨fun x hx => ?_, by rw [List.length_cons]; omega⟩
        obtain ⟨a1, a2, a3⟩ := i1 x hx
        exact ⟨a1, a2, by rw [List.length_cons]; omega⟩
      · cases hk : sgLen (c :: r) with
        | none => rw [lex_bad h32 hk] at h; cases h
        | some k =>
          have kp := sgLen_pos hk
          rw [lex_sign h32 hk kp.1] at h
          have hdl : ((c :: r).drop k).length = (c :: r).length - k := List.length_drop
          cases hrec : lexW ((c :: r).drop k) (p + k) with
          | bad q => rw [hrec] at h; cases h
          | ok s2 =>
            rw [hrec] at h
            have e : [(S ((c :: r).take k), p)] ++ s2 = s := LR.ok.inj h
            rw [List.length_cons] at kp hdl
            obtain ⟨i1, i2⟩ := lex_tk n ((c :: r).drop k) (p + k) s2 (by omega) hrec
            subst e
            refine ⟨fun x hx => ?_, ?_⟩
            · rcases List.mem_cons.mp hx with rfl | hx
              · exact ⟨(sgLen_tk hk).1, (sgLen_tk hk).2, Nat.le_add_right _ _⟩
              · obtain ⟨a1, a2, a3⟩ := i1 x hx
                exact ⟨a1, a2, by rw [List.length_cons]; omega⟩
            · rw [List.length_append, List.length_cons, List.length_cons, List.length_nil]
              omega
/-! facts of signs -/
theorem word_nodigit {w : List Nat} (h0 : w ≠ []) (h1 : ∀ c ∈ w, c ∈ abc) : Txt.isdigit (S w) = false := by
  have hd : ∀ c ∈ abc, PySem.Unicode.isDigit c = false := by
    have h : abc.all (fun c => !PySem.Unicode.isDigit c) = true := by decide +kernel
    intro c hc
    have := List.all_eq_true.mp h c hc
    simpa using this
  cases w with
  | nil => exact absurd rfl h0
  | cons c r =>
    have : (S (c :: r)).cps.all PySem.Unicode.isDigit = false := by
      rw [Bool.eq_false_iff]
      intro z
      rw [Array.all_eq_true'] at z
      have := z c (by simp [S])
      rw [hd c (h1 c List.mem_cons_self)] at this
      cases this
    unfold Txt.isdigit
    rw [this, Bool.and_false]
theorem one_facts2 : ∀ s ∈ (["(", ")", ";", "+", "-", "<="] : List Str), Txt.isdigit s = false ∧ s.length ≤ 2 ∧ ((tl s).map (fun c => decide (c ∈ dig))).all id = false ∧ nameB s = false := by
  have h : (["(", ")", ";", "+", "-", "<="] : List Str).all (fun s => !Txt.isdigit s && decide (s.length ≤ 2) && !((tl s).map (fun c => decide (c ∈ dig))).all id && !nameB s) = true := by decide +kernel
  intro s hs
  have := List.all_eq_true.mp h s hs
  simp only [Bool.and_eq_true, Bool.not_eq_true', decide_eq_true_eq] at this
  exact ⟨this.1.1.1, this.1.1.2, this.1.2, this.2⟩
theorem num_all {k : Int} (h0 : 0 ≤ k) (h1 : k ≤ 99) : ((tl (num k)).map (fun c => decide (c ∈ dig))).all id = true ∧ num k ≠ "" := by
  have h : (List.range 100).all (fun n => ((tl (num (n : Int))).map (fun c => decide (c ∈ dig))).all id && decide (num (n : Int) ≠ "")) = true := by decide +kernel
  have := List.all_eq_true.mp h k.toNat (List.mem_range.mpr (by omega))
  rw [show ((k.toNat : Nat) : Int) = k by omega] at this
  simp only [Bool.and_eq_true, decide_eq_true_eq] at this
  exact this
/-- a sign is a number, or none -/
theorem Tk.split {s : Str} (h : Tk s) : (∃ k : Int, 0 ≤ k ∧ k ≤ 99 ∧ numOf s = some k ∧ Txt.isdigit s = true ∧ PySem.intText? s = some k ∧ s ≠ "" ∧ ((tl s).map (fun c => decide (c ∈ dig))).all id = true) ∨ (numOf s = none ∧ Txt.isdigit s = false ∧ (s = "" ∨ ((tl s).map (fun c => decide (c ∈ dig))).all id = false)) := by
  cases h with
  | emp => exact .inr ⟨by decide +kernel, by decide +kernel, .inl rfl⟩
  | @word w h0 h1 h2 =>
    have hd := word_nodigit h0 h1
    refine .inr ⟨by unfold numOf; rw [hd]; rfl, hd, .inr ?_⟩
    cases w with
    | nil => exact absurd rfl h0
    | cons c r =>
      show ((c :: r).map (fun c => decide (c ∈ dig))).all id = false
      rw [List.map_cons, List.all_cons, decide_eq_false (abc_dig c (h1 c List.mem_cons_self))]
      rfl
  | num h0 h1 =>
    obtain ⟨z1, z2, z3⟩ := num_ok h0 h1
    obtain ⟨z4, z5⟩ := num_all h0 h1
    exact .inl ⟨_, h0, h1, by unfold numOf; rw [if_pos z1]; exact z2, z1, z2, z5, z4⟩
  | one h =>
    obtain ⟨z1, z2, z3, z4⟩ := one_facts2 _ h
    exact .inr ⟨by unfold numOf; rw [z1]; rfl, z1, .inr z3⟩
theorem Tk.len {s : Str} (h : Tk s) : s.length ≤ 8 := by
  cases h with
  | emp => decide +kernel
  | word h0 h1 h2 => rw [len_S]; exact h2
  | num h0 h1 => have := (num_ok h0 h1).2.2; omega
  | one h => have := (one_facts2 _ h).2.1; omega
/-! ### a plan read of signs -/
abbrev Sgs := List (Str × Nat)
def tok (sg : Sgs) (i : Nat) : Str := ((sg[i]?).map (·.1)).getD ""
def spot (sg : Sgs) (i : Nat) : Nat := ((sg[i]?).map (·.2)).getD 0
inductive PR (α : Type) where
  | ok (a : α) (p th : Nat)
  | bad (p : Nat)
def PR.bind {α β : Type} (r : PR α) (f : α → Nat → Nat → PR β) : PR β :=
  match r with
  | .ok a p th => f a p th
  | .bad p => .bad p
section
variable (sg : Sgs)
def pWord (w : Str) (p th : Nat) : PR Str := if tok sg p = w then .ok w (p + 1) th else .bad p
def pName (p th : Nat) : PR Str := if nameB (tok sg p) = true then .ok (tok sg p) (p + 1) th else .bad p
def pNum (lo hi : Int) (p th : Nat) : PR Int :=
  match numOf (tok sg p) with
  | some k => if lo ≤ k ∧ k ≤ hi then .ok k (p + 1) th else .bad p
  | none => .bad p
def pOf (ws : List Str) (p th : Nat) : PR Str := if tok sg p ∈ ws then .ok (tok sg p) (p + 1) th else .bad p
def pEnd (p th : Nat) : PR (Str × Int) :=
  match numOf (tok sg p) with
  | some k => .ok ("", k) (p + 1) th
  | none =>
    if tok sg p = "n" ∨ nameB (tok sg p) = true then
      (if tok sg (p + 1) = "+" ∨ tok sg (p + 1) = "-" then (pNum sg 1 99 (p + 2) th).bind fun k p' th' => .ok (tok sg p, if tok sg (p + 1) = "+" then k else -k) p' th'
       else .ok (tok sg p, 0) (p + 1) th)
    else .bad p
def kinds : List Str := ["step", "for", "if", "double", "call", "again"]
abbrev Br := Nat → Nat → PR (List Thing)
def pStep (p th : Nat) : PR Thing := (pNum sg 0 99 p th).bind fun k p th => .ok (.step k) p th
def pCall (p th : Nat) : PR Thing := (pName sg p th).bind fun x p th => (pWord sg "with" p th).bind fun _ p th => (pEnd sg p th).bind fun e p th => .ok (.call x e) p th
def pAgain (p th : Nat) : PR Thing := (pNum sg 1 9 p th).bind fun k p th => (pWord sg "on" p th).bind fun _ p th => (pOf sg ["halves", "thirds", "less"] p th).bind fun w p th => .ok (.again k w) p th
def pDouble (br : Br) (p th : Nat) : PR Thing := (br p th).bind fun b p th => .ok (.twice b) p th
def pFor (br : Br) (p th : Nat) : PR Thing := (pName sg p th).bind fun x p th => (pWord sg "from" p th).bind fun _ p th => (pEnd sg p th).bind fun a p th => (pWord sg "to" p th).bind fun _ p th => (pEnd sg p th).bind fun b p th => (br p th).bind fun c p th => .ok (.loop x a b c) p th
def pElse (br : Br) (p th : Nat) : PR (List Thing) := if tok sg p = "else" then br (p + 1) th else .ok [] p th
def pIf (br : Br) (p th : Nat) : PR Thing := (pEnd sg p th).bind fun a p th => (pWord sg "<=" p th).bind fun _ p th => (pEnd sg p th).bind fun b p th => (br p th).bind fun c p th => (pElse sg br p th).bind fun d p th => .ok (.test a b c d) p th
def pRest (br : Br) (w : Str) (p th : Nat) : PR Thing :=
  if w = "step" then pStep sg p th else if w = "call" then pCall sg p th else if w = "again" then pAgain sg p th
  else if w = "for" then pFor sg br p th else if w = "if" then pIf sg br p th else pDouble br p th
def pThing (br : Br) (p th : Nat) : PR Thing := if th < 12 ∧ tok sg p ∈ kinds then pRest sg br (tok sg p) (p + 1) (th + 1) else .bad p
def pLoop (thing : Nat → Nat → PR Thing) : Nat → List Thing → Nat → Nat → PR (List Thing)
  | 0, _, p, _ => .bad p
  | f + 1, acc, p, th => if tok sg p = ";" then (thing (p + 1) th).bind fun t p th => pLoop thing f (acc ++ [t]) p th else .ok acc p th
def pBody (thing : Nat → Nat → PR Thing) (p th : Nat) : PR (List Thing) := (thing p th).bind fun t p th => pLoop sg thing 13 [t] p th
def pBracket : Nat → Br
  | 0 => fun p _ => .bad p
  | n + 1 => fun p th => (pWord sg "(" p th).bind fun _ p th => (pBody sg (pThing sg (pBracket n)) p th).bind fun b p th => (pWord sg ")" p th).bind fun _ p th => .ok b p th
def pPlan (p th : Nat) : PR (List Thing) := (pBody sg (pThing sg (pBracket sg 4)) p th).bind fun b p th => if tok sg p = "" then .ok b p th else .bad p
end
/-- how the reading of a text ends -/
inductive RR where
  | told (ts : List Thing)
  | bad (at_ : Nat)
def readAll (z : Str) : RR :=
  match lexW (tl z) 0 with
  | .bad p => .bad p
  | .ok s => match pPlan (s ++ [(("" : Str), z.length)]) 0 0 with
    | .ok ts _ _ => .told ts
    | .bad p => .bad (spot (s ++ [(("" : Str), z.length)]) p)
def encRR : RR → D
  | .told ts => .tup [.str "told", .tup (encs ts)]
  | .bad n => .tup [.str "BadText", .int n]
end OG

set_option Elab.async false
set_option linter.all false
set_option maxRecDepth 100000
set_option maxHeartbeats 4000000
namespace OG
open PySem PySem.Spec PyProof.Rows L2
/-! ### the reader at any text -/
def SgP (H : Hp) (a : Addr) (sg : Sgs) : Prop := ∃ svs : List V, H a = some (.lst svs) ∧ svs.length = sg.length ∧ ∀ (i : Nat) x, sg[i]? = some x → ∃ b, svs[i]? = some (.ref b) ∧ H b = some (.tup [.str x.1, .int x.2])
def SgsOk (sg : Sgs) : Prop := ∃ (s : Sgs) (n : Nat), sg = s ++ [(("" : Str), n)] ∧ (∀ x ∈ s, Tk x.1 ∧ x.1 ≠ "" ∧ x.2 < 100000) ∧ n < 100000 ∧ s.length < 100000
theorem tok_at {sg : Sgs} {p : Nat} (h : p < sg.length) : sg[p]? = some (tok sg p, spot sg p) := by
  unfold tok spot
  rw [List.getElem?_eq_getElem h]
  rfl
theorem tok_cases {sg : Sgs} (h : SgsOk sg) (i : Nat) : Tk (tok sg i) ∧ spot sg i < 100000 ∧ (tok sg i ≠ "" → i + 1 < sg.length) := by
  obtain ⟨s, n, rfl, h1, h2, h3⟩ := h
  unfold tok spot
  by_cases hi : i < s.length
  · rw [List.getElem?_append_left hi, List.getElem?_eq_getElem hi]
    have := h1 _ (List.getElem_mem hi)
    refine ⟨this.1, this.2.2, fun _ => ?_⟩
    rw [List.length_append]
    show i + 1 < s.length + 1
    omega
  · by_cases hi2 : i = s.length
    · subst hi2
      rw [List.getElem?_append_right (Nat.le_refl _), Nat.sub_self]
      exact ⟨.emp, h2, fun z => absurd rfl z⟩
    · have hg : (s ++ [(("" : Str), n)])[i]? = none := by
        rw [List.getElem?_eq_none_iff, List.length_append]
        show s.length + 1 ≤ i
        omega
      rw [hg]
      exact ⟨.emp, by show 0 < 100000; decide, fun z => absurd rfl z⟩
theorem sgs_len {sg : Sgs} (h : SgsOk sg) : 0 < sg.length ∧ sg.length ≤ 100000 := by
  obtain ⟨s, n, rfl, _, _, h3⟩ := h
  rw [List.length_append]
  show 0 < s.length + 1 ∧ s.length + 1 ≤ 100000
  omega
structure RX (H : Hp) (C o dx a : Addr) (sg : Sgs) (p th dp : Nat) : Prop where
  ob : H o = some (.ins C dx (rfs a p th dp))
  sl : SgP H a sg
  ok : SgsOk sg
  lt : p < sg.length
theorem RX.ne {H : Hp} {C o dx a : Addr} {sg : Sgs} {p th dp : Nat} (h : RX H C o dx a sg p th dp) : a ≠ o := by
  obtain ⟨svs, h1, _⟩ := h.sl
  exact ne_of h1 h.ob (fun z => by cases z)
theorem RX.go {H H' : Hp} {C o dx a : Addr} {sg : Sgs} {p th dp p' th' dp' : Nat} (h : RX H C o dx a sg p th dp) (g : Go (· = o) H H') (ho : H' o = some (.ins C dx (rfs a p' th' dp'))) (l : p' < sg.length) : RX H' C o dx a sg p' th' dp' := by
  obtain ⟨svs, h1, h2, h3⟩ := h.sl
  refine ⟨ho, ⟨svs, g.at h1 h.ne, h2, fun i s hs => ?_⟩, h.ok, l⟩
  obtain ⟨b, e1, e2⟩ := h3 i s hs
  exact ⟨b, e1, g.im _ _ e2⟩
theorem RX.new {H : Hp} {C o dx a q : Addr} {u : HO} {sg : Sgs} {p th dp : Nat} (h : RX H C o dx a sg p th dp) (n : H q = none) : RX (upd H q u) C o dx a sg p th dp :=
  h.go ((Go.refl _ H).new n) (same_new n _ _ h.ob) h.lt
theorem RX.same {H H' : Hp} {C o dx a : Addr} {sg : Sgs} {p th dp : Nat} (h : RX H C o dx a sg p th dp) (s : Same H H') : RX H' C o dx a sg p th dp := h.go (Go.same s) (s _ _ h.ob) h.lt
theorem RX.noTup {H : Hp} {C o dx a : Addr} {sg : Sgs} {p th dp : Nat} (h : RX H C o dx a sg p th dp) : ∀ xs, H o ≠ some (.tup xs) := fun xs e => by
  rw [h.ob] at e
  cases e
theorem RX.step {H : Hp} {C o dx a : Addr} {sg : Sgs} {p th dp p' th' dp' : Nat} (h : RX H C o dx a sg p th dp) (l : p' < sg.length) : RX (upd H o (.ins C dx (rfs a p' th' dp'))) C o dx a sg p' th' dp' ∧ Go (· = o) H (upd H o (.ins C dx (rfs a p' th' dp'))) := by
  have g : Go (· = o) H (upd H o (.ins C dx (rfs a p' th' dp'))) := (Go.refl _ H).setI rfl h.noTup
  exact ⟨h.go g upd_same l, g⟩
theorem RX.own {H : Hp} {C o dx a F : Addr} {sg : Sgs} {p th dp : Nat} {us : List V} (u : HO) (h : RX H C o dx a sg p th dp) (n1 : F ≠ o) (n2 : a ≠ F) (hF : H F = some (.lst us)) : RX (upd H F u) C o dx a sg p th dp := by
  obtain ⟨svs, k1, k2, k3⟩ := h.sl
  have i4 : Imm H (upd H F u) := (Imm.refl H).upd fun xs e => by rw [hF] at e; cases e
  refine ⟨by rw [upd_ne n1.symm]; exact h.ob, ⟨svs, by rw [upd_ne n2]; exact k1, k2, fun i sx hsx => ?_⟩, h.ok, h.lt⟩
  obtain ⟨b, j1, j2⟩ := k3 i sx hsx
  exact ⟨b, j1, i4 _ _ j2⟩
/-! how a reading ends -/
def fldB (n : Nat) : List (Str × V) := [("at", .int n), ("word", .str "BadText")]
def EndP {α : Type} (C CB o dx a : Addr) (sg : Sgs) (dp : Nat) (val : α → V → Hp → Prop) (r : PR α) (H : Hp) (Q : VK) (E : XK) : Prop :=
  match r with
  | .ok x p th => ∀ v H', val x v H' → RX H' C o dx a sg p th dp → Go (· = o) H H' → Q v H'
  | .bad p => ∀ dd H', Go (· = o) H H' → H' dd = some (.xd (fldB (spot sg p))) → E (.ref CB) (some dd) H'
theorem EndP.to {α : Type} {C CB o dx a : Addr} {sg : Sgs} {dp : Nat} {val : α → V → Hp → Prop} {r : PR α} {H H1 : Hp} {Q : VK} {E : XK} (h : EndP C CB o dx a sg dp val r H Q E) (g : Go (· = o) H H1) : EndP C CB o dx a sg dp val r H1 Q E := by
  cases r with
  | ok x p th => exact fun v H' hv hR G => h v H' hv hR (g.trans G)
  | bad p => exact fun dd H' G hd => h dd H' (g.trans G) hd
theorem EndP.bind {α β : Type} {C CB o dx a : Addr} {sg : Sgs} {dp dp' : Nat} {val : α → V → Hp → Prop} {val' : β → V → Hp → Prop} {r : PR α} {f : α → Nat → Nat → PR β} {H : Hp} {Q R : VK} {E : XK} (h : EndP C CB o dx a sg dp val' (r.bind f) H Q E)
    (k : ∀ x p th v H1, r = .ok x p th → val x v H1 → RX H1 C o dx a sg p th dp' → Go (· = o) H H1 → EndP C CB o dx a sg dp val' (f x p th) H1 Q E → R v H1) : EndP C CB o dx a sg dp' val r H R E := by
  cases r with
  | ok x p th => exact fun v H1 hv hR G => k x p th v H1 rfl hv hR G (EndP.to (r := f x p th) h G)
  | bad p => exact fun dd H' G hd => h dd H' G hd
/-- the same, where nothing is left to do -/
theorem EndP.map {α : Type} {C CB o dx a : Addr} {sg : Sgs} {dp : Nat} {val val' : α → V → Hp → Prop} {r : PR α} {H : Hp} {Q R : VK} {E : XK} (h : EndP C CB o dx a sg dp val' r H Q E)
    (k : ∀ x p th v H1, r = .ok x p th → val x v H1 → RX H1 C o dx a sg p th dp → Go (· = o) H H1 → R v H1) (hb : ∀ p, r = .bad p → True) : EndP C CB o dx a sg dp val r H R E := by
  cases r with
  | ok x p th => exact fun v H1 hv hR G => k x p th v H1 rfl hv hR G
  | bad p => exact fun dd H' G hd => h dd H' G hd
/-! what is known of the spec's ends -/
section
variable {sg : Sgs}
theorem bind_ok {α β : Type} {r : PR α} {f : α → Nat → Nat → PR β} {b : β} {p th : Nat} (h : r.bind f = .ok b p th) : ∃ a p' th', r = .ok a p' th' ∧ f a p' th' = .ok b p th := by
  cases r with
  | ok a p' th' => exact ⟨a, p', th', rfl, h⟩
  | bad q => cases h
theorem pWord_th {w x : Str} {p th p' th' : Nat} (h : pWord sg w p th = .ok x p' th') : th' = th := by
  unfold pWord at h
  split at h
  · cases h; rfl
  · cases h
theorem pName_th {x : Str} {p th p' th' : Nat} (h : pName sg p th = .ok x p' th') : th' = th := by
  unfold pName at h
  split at h
  · cases h; rfl
  · cases h
theorem pNum_th {lo hi k : Int} {p th p' th' : Nat} (h : pNum sg lo hi p th = .ok k p' th') : th' = th := by
  unfold pNum at h
  split at h
  · split at h
    · cases h; rfl
    · cases h
  · cases h
theorem pOf_th {ws : List Str} {x : Str} {p th p' th' : Nat} (h : pOf sg ws p th = .ok x p' th') : th' = th := by
  unfold pOf at h
  split at h
  · cases h; rfl
  · cases h
theorem pEnd_th {e : Str × Int} {p th p' th' : Nat} (h : pEnd sg p th = .ok e p' th') : th' = th := by
  unfold pEnd at h
  split at h
  · cases h; rfl
  · split at h
    · split at h
      · obtain ⟨k, q, t, h1, h2⟩ := bind_ok h
        cases h2
        exact pNum_th h1
      · cases h; rfl
    · cases h
def BrOk (br : Br) : Prop := ∀ p th b p' th', br p th = .ok b p' th' → th ≤ th' ∧ (th ≤ 12 → th' ≤ 12)
theorem pThing_th {br : Br} (hb : BrOk br) {t : Thing} {p th p' th' : Nat} (h : pThing sg br p th = .ok t p' th') : th < th' ∧ th' ≤ 12 := by
  unfold pThing at h
  split at h
  · rename_i hc
    have key : ∀ {q : Nat}, pRest sg br (tok sg p) q (th + 1) = .ok t p' th' → th + 1 ≤ th' ∧ (th + 1 ≤ 12 → th' ≤ 12) := fun {q} h => by
      unfold pRest at h
      split at h
      · obtain ⟨k, a1, a2, h1, h2⟩ := bind_ok h
        cases h2
        have := pNum_th h1
        omega
      · split at h
        · obtain ⟨x, a1, a2, h1, h2⟩ := bind_ok h
          obtain ⟨_, b1, b2, h3, h4⟩ := bind_ok h2
          obtain ⟨_, c1, c2, h5, h6⟩ := bind_ok h4
          cases h6
          have := pName_th h1
          have := pWord_th h3
          have := pEnd_th h5
          omega
        · split at h
          · obtain ⟨x, a1, a2, h1, h2⟩ := bind_ok h
            obtain ⟨_, b1, b2, h3, h4⟩ := bind_ok h2
            obtain ⟨_, c1, c2, h5, h6⟩ := bind_ok h4
            cases h6
            have := pNum_th h1
            have := pWord_th h3
            have := pOf_th h5
            omega
          · split at h
            · obtain ⟨x, a1, a2, h1, h2⟩ := bind_ok h
              obtain ⟨_, b1, b2, h3, h4⟩ := bind_ok h2
              obtain ⟨_, c1, c2, h5, h6⟩ := bind_ok h4
              obtain ⟨_, d1, d2, h7, h8⟩ := bind_ok h6
              obtain ⟨_, e1, e2, h9, h10⟩ := bind_ok h8
              obtain ⟨_, f1, f2, h11, h12⟩ := bind_ok h10
              cases h12
              have := pName_th h1
              have := pWord_th h3
              have := pEnd_th h5
              have := pWord_th h7
              have := pEnd_th h9
              have := hb _ _ _ _ _ h11
              omega
            · split at h
              · obtain ⟨x, a1, a2, h1, h2⟩ := bind_ok h
                obtain ⟨_, b1, b2, h3, h4⟩ := bind_ok h2
                obtain ⟨_, c1, c2, h5, h6⟩ := bind_ok h4
                obtain ⟨_, d1, d2, h7, h8⟩ := bind_ok h6
                obtain ⟨_, e1, e2, h9, h10⟩ := bind_ok h8
                cases h10
                have := pEnd_th h1
                have := pWord_th h3
                have := pEnd_th h5
                have := hb _ _ _ _ _ h7
                unfold pElse at h9
                split at h9
                · have := hb _ _ _ _ _ h9
                  omega
                · cases h9
                  omega
              · obtain ⟨x, a1, a2, h1, h2⟩ := bind_ok h
                cases h2
                have := hb _ _ _ _ _ h1
                omega
    have := key h
    omega
  · cases h
theorem pLoop_th {thing : Nat → Nat → PR Thing} (ht : ∀ p th t p' th', thing p th = .ok t p' th' → th < th' ∧ th' ≤ 12) : ∀ (f : Nat) (acc : List Thing) (p th : Nat) (b : List Thing) (p' th' : Nat), pLoop sg thing f acc p th = .ok b p' th' → th ≤ th' ∧ (th ≤ 12 → th' ≤ 12)
  | 0, acc, p, th, b, p', th', h => by cases h
  | f + 1, acc, p, th, b, p', th', h => by
    rw [pLoop] at h
    split at h
    · obtain ⟨t, a1, a2, h1, h2⟩ := bind_ok h
      have := ht _ _ _ _ _ h1
      have := pLoop_th ht f _ _ _ _ _ _ h2
      omega
    · cases h
      omega
theorem pBracket_ok : ∀ n : Nat, BrOk (pBracket sg n)
  | 0 => fun p th b p' th' h => by cases h
  | n + 1 => fun p th b p' th' h => by
    have h' : ((pWord sg "(" p th).bind fun _ p th => (pBody sg (pThing sg (pBracket sg n)) p th).bind fun b p th => (pWord sg ")" p th).bind fun _ p th => .ok b p th) = .ok b p' th' := h
    obtain ⟨_, a1, a2, h1, h2⟩ := bind_ok h'
    obtain ⟨_, b1, b2, h3, h4⟩ := bind_ok h2
    obtain ⟨_, c1, c2, h5, h6⟩ := bind_ok h4
    cases h6
    obtain ⟨t, d1, d2, h7, h8⟩ := bind_ok h3
    have := pWord_th h1
    have := pWord_th h5
    have := pThing_th (pBracket_ok n) h7
    have := pLoop_th (fun p th t p' th' h => pThing_th (pBracket_ok n) h) _ _ _ _ _ _ _ h8
    omega
end
/-! ### contracts -/
def vS : Str → V → Hp → Prop := fun x v _ => v = .str x
def vI : Int → V → Hp → Prop := fun k v _ => v = .int k
def vE : (Str × Int) → V → Hp → Prop := fun e v H => Rp H v (encE e)
def vT : Thing → V → Hp → Prop := fun t v H => Rp H v (enc t)
def vB : List Thing → V → Hp → Prop := fun b v H => Rp H v (.tup (encs b))
def BadE (CB : Addr) (E : XK) (H : Hp) (n : Nat) : Prop := ∀ dd H', Same H H' → H' dd = some (.xd (fldB n)) → E (.ref CB) (some dd) H'
def spEndX (CB : Addr) (len : List Nat → Option Nat) : Sp := fun vs H Q E => ∃ (z : Str) (p : Nat), vs = [.str z, .int p] ∧ z.length < 100000 ∧ p < z.length ∧
  match len ((tl z).drop p) with
  | some k => Q (.int ((p + k : Nat) : Int)) H
  | none => BadE CB E H p
def wordLen (l : List Nat) : Option Nat := if run abc l ≤ 8 then some (run abc l) else none
def numLen (l : List Nat) : Option Nat := if (l.head? = some 48 ∧ 1 < run dig l) ∨ 2 < run dig l then none else some (run dig l)
def spSignsX (CB : Addr) : Sp := fun vs H Q E => ∃ (z : Str), vs = [.str z] ∧ z.length < 100000 ∧
  match lexW (tl z) 0 with
  | .ok s => ∀ (a : Addr) (H' : Hp), Same H H' → H a = none → SgP H' a s → Q (.ref a) H'
  | .bad p => BadE CB E H p
def spInitX (C CB : Addr) : Sp := fun vs H Q E => ∃ (o dx : Addr) (z : Str), vs = [.ref o, .str z] ∧ H o = some (.ins C dx []) ∧ z.length < 100000 ∧
  match lexW (tl z) 0 with
  | .ok s => ∀ (a : Addr) (H' : Hp), RX H' C o dx a (s ++ [(("" : Str), z.length)]) 0 0 0 → Go (· = o) H H' → Q .non H'
  | .bad p => BadE CB E H p
def spSgn (C : Addr) : Sp := fun vs H Q _ => ∃ (o dx a : Addr) (sg : Sgs) (p th dp : Nat), vs = [.ref o] ∧ RX H C o dx a sg p th dp ∧ Q (.str (tok sg p)) H
def spSpt (C : Addr) : Sp := fun vs H Q _ => ∃ (o dx a : Addr) (sg : Sgs) (p th dp : Nat), vs = [.ref o] ∧ RX H C o dx a sg p th dp ∧ Q (.int (spot sg p)) H
def spTkIf (C CB : Addr) : Sp := fun vs H Q E => ∃ (o dx a : Addr) (sg : Sgs) (p th dp : Nat) (b : Bool), vs = [.ref o, .bl b] ∧ RX H C o dx a sg p th dp ∧ (b = true → tok sg p ≠ "") ∧ EndP C CB o dx a sg dp vS (if b = true then .ok (tok sg p) (p + 1) th else .bad p) H Q E
def spTkW (C CB : Addr) : Sp := fun vs H Q E => ∃ (o dx a : Addr) (sg : Sgs) (p th dp : Nat) (w : Str), vs = [.ref o, .str w] ∧ RX H C o dx a sg p th dp ∧ w ≠ "" ∧ EndP C CB o dx a sg dp vS (pWord sg w p th) H Q E
def spTkNum (C CB : Addr) : Sp := fun vs H Q E => ∃ (o dx a : Addr) (sg : Sgs) (p th dp : Nat) (lo hi : Int), vs = [.ref o, .int lo, .int hi] ∧ RX H C o dx a sg p th dp ∧ EndP C CB o dx a sg dp vI (pNum sg lo hi p th) H Q E
def spPr {α : Type} (C CB : Addr) (val : α → V → Hp → Prop) (parse : Sgs → Nat → Nat → PR α) (pre : Nat → Prop) : Sp := fun vs H Q E => ∃ (o dx a : Addr) (sg : Sgs) (p th dp : Nat), vs = [.ref o] ∧ RX H C o dx a sg p th dp ∧ pre dp ∧ EndP C CB o dx a sg dp val (parse sg p th) H Q E
def anyD : Nat → Prop := fun _ => True
def spTkName (C CB : Addr) : Sp := spPr C CB vS pName anyD
def spREnd (C CB : Addr) : Sp := spPr C CB vE pEnd anyD
def spRThing (C CB : Addr) (n : Nat) : Sp := spPr C CB vT (fun sg => pThing sg (pBracket sg n)) (fun dp => dp + n = 4)
def spRBody (C CB : Addr) (n : Nat) : Sp := spPr C CB vB (fun sg => pBody sg (pThing sg (pBracket sg n))) (fun dp => dp + n = 4)
def spRBr (C CB : Addr) (n : Nat) : Sp := spPr C CB vB (fun sg => pBracket sg n) (fun dp => dp + n = 4)
def spRRest (C CB : Addr) (n : Nat) (parse : Sgs → Br → Nat → Nat → PR Thing) : Sp := spPr C CB vT (fun sg => parse sg (pBracket sg n)) (fun dp => dp + n = 4)
def spRPlan (CB : Addr) : Sp := fun vs H Q E => ∃ (z : Str), vs = [.str z] ∧ z.length < 100000 ∧
  match readAll z with
  | .told ts => ∀ v H', Rp H' v (.tup (encs ts)) → Same H H' → Q v H'
  | .bad n => BadE CB E H n
end OG

set_option Elab.async false
set_option linter.all false
set_option maxRecDepth 100000
set_option maxHeartbeats 4000000
namespace OGX
open PySem PySem.Spec PyProof.Rows L2 OG
/-! ### an exception of the program's own, made with no argument: C() -/
/-- what its __init__ must promise -/
def tMk0 (C : Addr) (sp : Sp) : L2.St → Hp → XK → Prop := fun _ H Q => ∀ a, H a = none → sp [.ref a] (upd H a (exo a C none))
  (fun v G => v = .non ∧ ∃ (dd : Addr) (fl : List (Str × V)), G a = some (exo a C (some dd)) ∧ G dd = some (exd dd fl) ∧ H dd = none ∧ Q (.ref C) (some dd) (upd (del G a) dd (.xd fl))) (fun _ _ _ => False)
theorem pmk_oex0 {X : Cx} {CX : CXT} {x : Str} {C g : Addr} {k : Nat} {fd : FuncData} {sp : Sp} {p pos : Pos} (cl : OexC X.K C) (ini : PySem.W.findIn X.K (.ref C) "__init__" = some (some (.ref g))) (isf : PySem.W.typeIn X.K (.ref g) = some (.type "function"))
    (ok : FnOk X.prog X.w X.K X.mg X.base CX k g fd ["self"] sp) (room : Room (k + 1) X.A) (bd : L2.Binds X.K fd ["self"] []) (pass : Passes CX X (fun _ _ _ => False)) (gl : Gl X x) (at_ : X.mg x = some (.ref C)) (nd : (x == ("__debug__" : Str)) = false := by decide) :
    PMk X (.Call (.Name x p) [] [] pos) (tMk0 C sp) := by
  intro pins s0 σ H Q inv told
  obtain ⟨_, _, _, _, bm, _, _, _, _, _, _, _, _, _, _, isC, refs⟩ := cl.cls
  refine wpAny_Call_Name_kw (ld_glob inv gl at_ ?_ nd)
  refine PySem.W.callWith_K0 inv.kIn cl.kC ?_
  obtain ⟨hh, gn, dw, tk, oss⟩ := s0
  let top : Addr := hh.objs.size + 1
  let grown : Heap := (hh.push (PySem.W.kdv_tup [])).push (PySem.HandSPX.excO C hh.objs.size)
  have above : hh.objs.size ≤ top := Nat.le_succ _
  have free : H top = none := inv.hok.fresh above
  have mine := told top free
  have keeps : ∀ b o, hh.get? b = some o → grown.get? b = some o := fun b o z => by
    have z1 := Heap.get?_push_of_some (PySem.W.kdv_tup []) z
    exact Heap.get?_push_of_some _ z1
  have there : grown.get? top = some (PySem.HandSPX.excO C hh.objs.size) := by
    show ((hh.push (PySem.W.kdv_tup [])).push (PySem.HandSPX.excO C hh.objs.size)).get? (hh.objs.size + 1) = _
    heap_get
  have inv2 : L2.Inv X pins σ (upd H top (exo top C none)) ⟨grown, gn, dw, tk, oss⟩ := inv.laid (t' := tk) (h' := grown) keeps above (exo_ok there)
  have vals : Vals [V.ref top] [Value.ref top] := .cons rfl .nil
  have one : ([Value.ref top] ++ ([] : List Value)).length = ["self"].length := rfl
  have bound := bd _ [Value.ref top] inv2.kIn one
  have ran := ok.run _ X.stack _ _ ⟨[Value.ref top], []⟩ [Value.ref top] [V.ref top] _ (fun _ _ _ => False) (room.make C [] []) (inv2.env0.make C [] []) bound vals mine
  show wpAny _ _ (call (.ref C) []) _ _ _
  have few : ([] : List Value).length ≤ sizeLine := Nat.zero_le _
  refine wpAny_call (PySem.HandSPX.call_own F.excBase_ValueError (fun Y => PySem.HandSPX.refsVE_contains Y bm refs) (inv.kIn _ _ isC) (PySem.W.looks_findIn inv.kIn ini) (fun me => PySem.W.bind_fn inv.kIn me isf) few (codeAny_mono ran ?_))
  rintro (er | fl) s' ends
  · exact pass pins σ _ _ er s' inv2 ends
  · cases fl with
    | ret u =>
      obtain ⟨v, G, os2, bare, un, hok, rel, rfl, dd, fs, h1, h2, h3, h4⟩ := ends
      obtain ⟨_, _, _, _, _⟩ := s'
      exact ⟨rel, mk_end (raises_own cl.exC cl.tyC) inv above keeps un hok os2 bare h1 h2 h3 h4⟩
    | next => exact absurd ends id
    | brk => exact absurd ends id
    | cont => exact absurd ends id
end OGX

set_option Elab.async false
set_option linter.all false
set_option maxRecDepth 100000
set_option maxHeartbeats 4000000
namespace K05
open PySem PySem.Spec PyProof.Rows L2 OG
open C8 (pss_cut pe_gc)
open OGX

def topS (i : Nat) : Stmt := PySem.Challenge.pw_outgrow_k05_texts_that_are_no_plans.main.body.getD i (.Pass ⟨0, 0, 0, 0⟩)
abbrev sis_name : Stmt := topS 10
abbrev Nis_name : List Str := ["text", "letter"]
theorem scis_name : FnScope Nis_name ["text"] (defScope sis_name) := ⟨rfl, rfl, rfl, by decide +kernel, rfl, by decide +kernel, by decide +kernel⟩

abbrev srun_end : Stmt := topS 31
abbrev Nrun_end : List Str := ["text", "at", "kind", "end"]
theorem scrun_end : FnScope Nrun_end ["text", "at", "kind"] (defScope srun_end) := ⟨rfl, rfl, rfl, by decide +kernel, rfl, by decide +kernel, by decide +kernel⟩

abbrev sword_end : Stmt := topS 32
abbrev Nword_end : List Str := ["text", "at", "end"]
theorem scword_end : FnScope Nword_end ["text", "at"] (defScope sword_end) := ⟨rfl, rfl, rfl, by decide +kernel, rfl, by decide +kernel, by decide +kernel⟩

abbrev snumber_end : Stmt := topS 33
abbrev Nnumber_end : List Str := ["text", "at", "end", "needless_nought"]
theorem scnumber_end : FnScope Nnumber_end ["text", "at"] (defScope snumber_end) := ⟨rfl, rfl, rfl, by decide +kernel, rfl, by decide +kernel, by decide +kernel⟩

abbrev ssign_end : Stmt := topS 34
abbrev Nsign_end : List Str := ["text", "at"]
theorem scsign_end : FnScope Nsign_end ["text", "at"] (defScope ssign_end) := ⟨rfl, rfl, rfl, by decide +kernel, rfl, by decide +kernel, by decide +kernel⟩

abbrev ssigns_of : Stmt := topS 35
abbrev Nsigns_of : List Str := ["text", "signs", "at", "end"]
theorem scsigns_of : FnScope Nsigns_of ["text"] (defScope ssigns_of) := ⟨rfl, rfl, rfl, by decide +kernel, rfl, by decide +kernel, by decide +kernel⟩

abbrev sReader___init__ : Stmt := inClass (topS 36) 0
abbrev NReader___init__ : List Str := ["self", "text"]
theorem scReader___init__ : FnScope NReader___init__ ["self", "text"] (defScope sReader___init__) := ⟨rfl, rfl, rfl, by decide +kernel, rfl, by decide +kernel, by decide +kernel⟩

abbrev sReader_sign : Stmt := inClass (topS 36) 1
abbrev NReader_sign : List Str := ["self"]
theorem scReader_sign : FnScope NReader_sign ["self"] (defScope sReader_sign) := ⟨rfl, rfl, rfl, by decide +kernel, rfl, by decide +kernel, by decide +kernel⟩

abbrev sReader_spot : Stmt := inClass (topS 36) 2
abbrev NReader_spot : List Str := ["self"]
theorem scReader_spot : FnScope NReader_spot ["self"] (defScope sReader_spot) := ⟨rfl, rfl, rfl, by decide +kernel, rfl, by decide +kernel, by decide +kernel⟩

abbrev sReader_take_if : Stmt := inClass (topS 36) 3
abbrev NReader_take_if : List Str := ["self", "fits", "sign"]
theorem scReader_take_if : FnScope NReader_take_if ["self", "fits"] (defScope sReader_take_if) := ⟨rfl, rfl, rfl, by decide +kernel, rfl, by decide +kernel, by decide +kernel⟩

abbrev sReader_take : Stmt := inClass (topS 36) 4
abbrev NReader_take : List Str := ["self", "wanted"]
theorem scReader_take : FnScope NReader_take ["self", "wanted"] (defScope sReader_take) := ⟨rfl, rfl, rfl, by decide +kernel, rfl, by decide +kernel, by decide +kernel⟩

abbrev sReader_take_name : Stmt := inClass (topS 36) 5
abbrev NReader_take_name : List Str := ["self"]
theorem scReader_take_name : FnScope NReader_take_name ["self"] (defScope sReader_take_name) := ⟨rfl, rfl, rfl, by decide +kernel, rfl, by decide +kernel, by decide +kernel⟩

abbrev sReader_take_number : Stmt := inClass (topS 36) 6
abbrev NReader_take_number : List Str := ["self", "least", "most", "sign"]
theorem scReader_take_number : FnScope NReader_take_number ["self", "least", "most"] (defScope sReader_take_number) := ⟨rfl, rfl, rfl, by decide +kernel, rfl, by decide +kernel, by decide +kernel⟩

abbrev sread_plan : Stmt := topS 38
abbrev Nread_plan : List Str := ["text", "reader", "plan"]
theorem scread_plan : FnScope Nread_plan ["text"] (defScope sread_plan) := ⟨rfl, rfl, rfl, by decide +kernel, rfl, by decide +kernel, by decide +kernel⟩

abbrev sread_body : Stmt := topS 39
abbrev Nread_body : List Str := ["reader", "things"]
theorem scread_body : FnScope Nread_body ["reader"] (defScope sread_body) := ⟨rfl, rfl, rfl, by decide +kernel, rfl, by decide +kernel, by decide +kernel⟩

abbrev sread_thing : Stmt := topS 40
abbrev Nread_thing : List Str := ["reader", "word", "read_rest"]
theorem scread_thing : FnScope Nread_thing ["reader"] (defScope sread_thing) := ⟨rfl, rfl, rfl, by decide +kernel, rfl, by decide +kernel, by decide +kernel⟩

abbrev sread_bracket : Stmt := topS 41
abbrev Nread_bracket : List Str := ["reader", "body"]
theorem scread_bracket : FnScope Nread_bracket ["reader"] (defScope sread_bracket) := ⟨rfl, rfl, rfl, by decide +kernel, rfl, by decide +kernel, by decide +kernel⟩

abbrev sread_end : Stmt := topS 42
abbrev Nread_end : List Str := ["reader", "name", "sign", "number"]
theorem scread_end : FnScope Nread_end ["reader"] (defScope sread_end) := ⟨rfl, rfl, rfl, by decide +kernel, rfl, by decide +kernel, by decide +kernel⟩

abbrev sread_step : Stmt := topS 43
abbrev Nread_step : List Str := ["reader"]
theorem scread_step : FnScope Nread_step ["reader"] (defScope sread_step) := ⟨rfl, rfl, rfl, by decide +kernel, rfl, by decide +kernel, by decide +kernel⟩

abbrev sread_for : Stmt := topS 44
abbrev Nread_for : List Str := ["reader", "name", "first", "last"]
theorem scread_for : FnScope Nread_for ["reader"] (defScope sread_for) := ⟨rfl, rfl, rfl, by decide +kernel, rfl, by decide +kernel, by decide +kernel⟩

abbrev sread_if : Stmt := topS 45
abbrev Nread_if : List Str := ["reader", "lesser", "greater", "body", "other"]
theorem scread_if : FnScope Nread_if ["reader"] (defScope sread_if) := ⟨rfl, rfl, rfl, by decide +kernel, rfl, by decide +kernel, by decide +kernel⟩

abbrev sread_double : Stmt := topS 46
abbrev Nread_double : List Str := ["reader"]
theorem scread_double : FnScope Nread_double ["reader"] (defScope sread_double) := ⟨rfl, rfl, rfl, by decide +kernel, rfl, by decide +kernel, by decide +kernel⟩

abbrev sread_call : Stmt := topS 47
abbrev Nread_call : List Str := ["reader", "name"]
theorem scread_call : FnScope Nread_call ["reader"] (defScope sread_call) := ⟨rfl, rfl, rfl, by decide +kernel, rfl, by decide +kernel, by decide +kernel⟩

abbrev sread_again : Stmt := topS 48
abbrev Nread_again : List Str := ["reader", "number", "word"]
theorem scread_again : FnScope Nread_again ["reader"] (defScope sread_again) := ⟨rfl, rfl, rfl, by decide +kernel, rfl, by decide +kernel, by decide +kernel⟩

abbrev sl_begin : Stmt := topS 51
abbrev Nl_begin : List Str := ["_law_script"]
theorem scl_begin : FnScope Nl_begin ["_law_script"] (defScope sl_begin) := ⟨rfl, rfl, rfl, by decide +kernel, rfl, by decide +kernel, by decide +kernel⟩

abbrev sl_end_text : Stmt := topS 52
abbrev Nl_end_text : List Str := ["_law_end"]
theorem scl_end_text : FnScope Nl_end_text ["_law_end"] (defScope sl_end_text) := ⟨rfl, rfl, rfl, by decide +kernel, rfl, by decide +kernel, by decide +kernel⟩

abbrev sl_thing_text : Stmt := topS 53
abbrev Nl_thing_text : List Str := ["_law_thing", "_law_word", "_law_told", "_law_head"]
theorem scl_thing_text : FnScope Nl_thing_text ["_law_thing"] (defScope sl_thing_text) := ⟨rfl, rfl, rfl, by decide +kernel, rfl, by decide +kernel, by decide +kernel⟩

abbrev sl_written : Stmt := topS 54
abbrev Nl_written : List Str := ["_law_plan", "_law_thing"]
theorem scl_written : FnScope Nl_written ["_law_plan"] (defScope sl_written) := ⟨rfl, rfl, rfl, by decide +kernel, rfl, by decide +kernel, by decide +kernel⟩

abbrev sl_take : Stmt := topS 55
abbrev Nl_take : List Str := ["_law_draw", "_law_sides", "_law_cell", "_law_got"]
theorem scl_take : FnScope Nl_take ["_law_draw", "_law_sides"] (defScope sl_take) := ⟨rfl, rfl, rfl, by decide +kernel, rfl, by decide +kernel, by decide +kernel⟩

abbrev sl_pick : Stmt := topS 56
abbrev Nl_pick : List Str := ["_law_draw", "_law_row"]
theorem scl_pick : FnScope Nl_pick ["_law_draw", "_law_row"] (defScope sl_pick) := ⟨rfl, rfl, rfl, by decide +kernel, rfl, by decide +kernel, by decide +kernel⟩

abbrev sl_some_end : Stmt := topS 57
abbrev Nl_some_end : List Str := ["_law_draw", "_law_scope", "_law_wide", "_law_more"]
theorem scl_some_end : FnScope Nl_some_end ["_law_draw", "_law_scope", "_law_wide"] (defScope sl_some_end) := ⟨rfl, rfl, rfl, by decide +kernel, rfl, by decide +kernel, by decide +kernel⟩

abbrev sl_leaf : Stmt := topS 58
abbrev Nl_leaf : List Str := ["_law_draw", "_law_kit", "_law_scope", "_law_deep", "_law_fit", "_law_name", "_law_end"]
theorem scl_leaf : FnScope Nl_leaf ["_law_draw", "_law_kit", "_law_scope", "_law_deep"] (defScope sl_leaf) := ⟨rfl, rfl, rfl, by decide +kernel, rfl, by decide +kernel, by decide +kernel⟩

abbrev sl_kept_words : Stmt := topS 59
abbrev Nl_kept_words : List Str := []
theorem scl_kept_words : FnScope Nl_kept_words [] (defScope sl_kept_words) := ⟨rfl, rfl, rfl, by decide +kernel, rfl, by decide +kernel, by decide +kernel⟩

abbrev sl_fresh : Stmt := topS 60
abbrev Nl_fresh : List Str := ["_law_draw", "_law_taken", "_law_size", "_law_name", "_law_spare", "_law_sign", "_law_k", "_law_one"]
theorem scl_fresh : FnScope Nl_fresh ["_law_draw", "_law_taken"] (defScope sl_fresh) := ⟨rfl, rfl, rfl, by decide +kernel, rfl, by decide +kernel, by decide +kernel⟩

abbrev sl_drawn_thing : Stmt := topS 61
abbrev Nl_drawn_thing : List Str := ["_law_draw", "_law_kit", "_law_scope", "_law_deep", "_law_fork", "_law_body", "_law_rest", "_law_one", "_law_other", "_law_name"]
theorem scl_drawn_thing : FnScope Nl_drawn_thing ["_law_draw", "_law_kit", "_law_scope", "_law_deep"] (defScope sl_drawn_thing) := ⟨rfl, rfl, rfl, by decide +kernel, rfl, by decide +kernel, by decide +kernel⟩

abbrev sl_drawn_body : Stmt := topS 62
abbrev Nl_drawn_body : List Str := ["_law_draw", "_law_kit", "_law_scope", "_law_deep", "_law_found", "_law_k"]
theorem scl_drawn_body : FnScope Nl_drawn_body ["_law_draw", "_law_kit", "_law_scope", "_law_deep"] (defScope sl_drawn_body) := ⟨rfl, rfl, rfl, by decide +kernel, rfl, by decide +kernel, by decide +kernel⟩

abbrev sl_drawn : Stmt := topS 63
abbrev Nl_drawn : List Str := ["_law_draw", "_law_room", "_law_figures", "_law_wide"]
theorem scl_drawn : FnScope Nl_drawn ["_law_draw", "_law_room", "_law_figures", "_law_wide"] (defScope sl_drawn) := ⟨rfl, rfl, rfl, by decide +kernel, rfl, by decide +kernel, by decide +kernel⟩

abbrev sl_spoilt_text : Stmt := topS 64
abbrev Nl_spoilt_text : List Str := ["_law_draw", "_law_text", "_law_words", "_law_at", "_law_some", "_law_fork", "_law_place"]
theorem scl_spoilt_text : FnScope Nl_spoilt_text ["_law_draw", "_law_text"] (defScope sl_spoilt_text) := ⟨rfl, rfl, rfl, by decide +kernel, rfl, by decide +kernel, by decide +kernel⟩

abbrev sl_same : Stmt := topS 65
abbrev Nl_same : List Str := ["_law_found", "_law_due", "_law_one", "_law_other"]
theorem scl_same : FnScope Nl_same ["_law_found", "_law_due"] (defScope sl_same) := ⟨rfl, rfl, rfl, by decide +kernel, rfl, by decide +kernel, by decide +kernel⟩

abbrev sl_class : Stmt := topS 66
abbrev Nl_class : List Str := ["_law_e"]
theorem scl_class : FnScope Nl_class ["_law_e"] (defScope sl_class) := ⟨rfl, rfl, rfl, by decide +kernel, rfl, by decide +kernel, by decide +kernel⟩

abbrev sl_tried : Stmt := topS 67
abbrev Nl_tried : List Str := ["_law_ask", "_law_e"]
theorem scl_tried : FnScope Nl_tried ["_law_ask"] (defScope sl_tried) := ⟨rfl, rfl, rfl, by decide +kernel, rfl, by decide +kernel, by decide +kernel⟩

abbrev sl_cut_up : Stmt := topS 68
abbrev Nl_cut_up : List Str := ["_law_text", "_law_found", "_law_at", "_law_letters", "_law_figures", "_law_end", "_law_some", "_law_one", "_law_good"]
theorem scl_cut_up : FnScope Nl_cut_up ["_law_text"] (defScope sl_cut_up) := ⟨rfl, rfl, rfl, by decide +kernel, rfl, by decide +kernel, by decide +kernel⟩

abbrev sl_figure : Stmt := topS 69
abbrev Nl_figure : List Str := ["_law_word", "_law_low", "_law_high", "_law_sign"]
theorem scl_figure : FnScope Nl_figure ["_law_word", "_law_low", "_law_high"] (defScope sl_figure) := ⟨rfl, rfl, rfl, by decide +kernel, rfl, by decide +kernel, by decide +kernel⟩

abbrev sl_is_name : Stmt := topS 70
abbrev Nl_is_name : List Str := ["_law_word", "_law_good", "_law_sign"]
theorem scl_is_name : FnScope Nl_is_name ["_law_word"] (defScope sl_is_name) := ⟨rfl, rfl, rfl, by decide +kernel, rfl, by decide +kernel, by decide +kernel⟩

abbrev sl_read_end : Stmt := topS 71
abbrev Nl_read_end : List Str := ["_law_signs", "_law_at", "_law_word"]
theorem scl_read_end : FnScope Nl_read_end ["_law_signs", "_law_at"] (defScope sl_read_end) := ⟨rfl, rfl, rfl, by decide +kernel, rfl, by decide +kernel, by decide +kernel⟩

abbrev sl_read_leaf : Stmt := topS 72
abbrev Nl_read_leaf : List Str := ["_law_signs", "_law_at", "_law_word", "_law_good", "_law_end", "_law_after"]
theorem scl_read_leaf : FnScope Nl_read_leaf ["_law_signs", "_law_at"] (defScope sl_read_leaf) := ⟨rfl, rfl, rfl, by decide +kernel, rfl, by decide +kernel, by decide +kernel⟩

abbrev sl_read_ends : Stmt := topS 73
abbrev Nl_read_ends : List Str := ["_law_signs", "_law_at", "_law_middle", "_law_one", "_law_other"]
theorem scl_read_ends : FnScope Nl_read_ends ["_law_signs", "_law_at", "_law_middle"] (defScope sl_read_ends) := ⟨rfl, rfl, rfl, by decide +kernel, rfl, by decide +kernel, by decide +kernel⟩

abbrev sl_read_bracket : Stmt := topS 74
abbrev Nl_read_bracket : List Str := ["_law_signs", "_law_at", "_law_deep", "_law_room", "_law_body"]
theorem scl_read_bracket : FnScope Nl_read_bracket ["_law_signs", "_law_at", "_law_deep", "_law_room"] (defScope sl_read_bracket) := ⟨rfl, rfl, rfl, by decide +kernel, rfl, by decide +kernel, by decide +kernel⟩

abbrev sl_read_thing : Stmt := topS 75
abbrev Nl_read_thing : List Str := ["_law_signs", "_law_at", "_law_deep", "_law_room", "_law_word", "_law_head", "_law_body", "_law_rest", "_law_ends"]
theorem scl_read_thing : FnScope Nl_read_thing ["_law_signs", "_law_at", "_law_deep", "_law_room"] (defScope sl_read_thing) := ⟨rfl, rfl, rfl, by decide +kernel, rfl, by decide +kernel, by decide +kernel⟩

abbrev sl_read_body : Stmt := topS 76
abbrev Nl_read_body : List Str := ["_law_signs", "_law_at", "_law_deep", "_law_room", "_law_found", "_law_thing"]
theorem scl_read_body : FnScope Nl_read_body ["_law_signs", "_law_at", "_law_deep", "_law_room"] (defScope sl_read_body) := ⟨rfl, rfl, rfl, by decide +kernel, rfl, by decide +kernel, by decide +kernel⟩

abbrev sl_reading : Stmt := topS 77
abbrev Nl_reading : List Str := ["_law_text", "_law_signs", "_law_plan", "_law_at"]
theorem scl_reading : FnScope Nl_reading ["_law_text"] (defScope sl_reading) := ⟨rfl, rfl, rfl, by decide +kernel, rfl, by decide +kernel, by decide +kernel⟩

abbrev slaw : Stmt := topS 78
abbrev Nlaw : List Str := ["_law_script", "_law_draw", "_law_turn", "_law_few", "_law_text", "_law_step"]
theorem sclaw : FnScope Nlaw ["_law_script"] (defScope slaw) := ⟨rfl, rfl, rfl, by decide +kernel, rfl, by decide +kernel, by decide +kernel⟩

structure Tops (w : World) (K : PySem.W.Frag) (mg : Str → Option Value) where
  fis_name : Addr
  dis_name : FuncData
  Fis_name : Fun K "is_name" "is_name" sis_name fis_name dis_name
  gis_name : mg "is_name" = some (.ref fis_name)
  frun_end : Addr
  drun_end : FuncData
  Frun_end : Fun K "run_end" "run_end" srun_end frun_end drun_end
  grun_end : mg "run_end" = some (.ref frun_end)
  fword_end : Addr
  dword_end : FuncData
  Fword_end : Fun K "word_end" "word_end" sword_end fword_end dword_end
  gword_end : mg "word_end" = some (.ref fword_end)
  fnumber_end : Addr
  dnumber_end : FuncData
  Fnumber_end : Fun K "number_end" "number_end" snumber_end fnumber_end dnumber_end
  gnumber_end : mg "number_end" = some (.ref fnumber_end)
  fsign_end : Addr
  dsign_end : FuncData
  Fsign_end : Fun K "sign_end" "sign_end" ssign_end fsign_end dsign_end
  gsign_end : mg "sign_end" = some (.ref fsign_end)
  fsigns_of : Addr
  dsigns_of : FuncData
  Fsigns_of : Fun K "signs_of" "signs_of" ssigns_of fsigns_of dsigns_of
  gsigns_of : mg "signs_of" = some (.ref fsigns_of)
  CReader : Addr
  clReader : Cls K CReader
  gReader : mg "Reader" = some (.ref CReader)
  naReader_signs : NoAttr K CReader "signs"
  naReader_place : NoAttr K CReader "place"
  naReader_things : NoAttr K CReader "things"
  naReader_depth : NoAttr K CReader "depth"
  fReader___init__ : Addr
  dReader___init__ : FuncData
  FReader___init__ : Fun K "__init__" "Reader.__init__" sReader___init__ fReader___init__ dReader___init__
  mkReader : Mk K CReader fReader___init__
  fReader_sign : Addr
  dReader_sign : FuncData
  FReader_sign : Fun K "sign" "Reader.sign" sReader_sign fReader_sign dReader_sign
  mtReader_sign : Meth K CReader "sign" fReader_sign
  fReader_spot : Addr
  dReader_spot : FuncData
  FReader_spot : Fun K "spot" "Reader.spot" sReader_spot fReader_spot dReader_spot
  mtReader_spot : Meth K CReader "spot" fReader_spot
  fReader_take_if : Addr
  dReader_take_if : FuncData
  FReader_take_if : Fun K "take_if" "Reader.take_if" sReader_take_if fReader_take_if dReader_take_if
  mtReader_take_if : Meth K CReader "take_if" fReader_take_if
  fReader_take : Addr
  dReader_take : FuncData
  FReader_take : Fun K "take" "Reader.take" sReader_take fReader_take dReader_take
  mtReader_take : Meth K CReader "take" fReader_take
  fReader_take_name : Addr
  dReader_take_name : FuncData
  FReader_take_name : Fun K "take_name" "Reader.take_name" sReader_take_name fReader_take_name dReader_take_name
  mtReader_take_name : Meth K CReader "take_name" fReader_take_name
  fReader_take_number : Addr
  dReader_take_number : FuncData
  FReader_take_number : Fun K "take_number" "Reader.take_number" sReader_take_number fReader_take_number dReader_take_number
  mtReader_take_number : Meth K CReader "take_number" fReader_take_number
  fread_plan : Addr
  dread_plan : FuncData
  Fread_plan : Fun K "read_plan" "read_plan" sread_plan fread_plan dread_plan
  gread_plan : mg "read_plan" = some (.ref fread_plan)
  fread_body : Addr
  dread_body : FuncData
  Fread_body : Fun K "read_body" "read_body" sread_body fread_body dread_body
  gread_body : mg "read_body" = some (.ref fread_body)
  fread_thing : Addr
  dread_thing : FuncData
  Fread_thing : Fun K "read_thing" "read_thing" sread_thing fread_thing dread_thing
  gread_thing : mg "read_thing" = some (.ref fread_thing)
  fread_bracket : Addr
  dread_bracket : FuncData
  Fread_bracket : Fun K "read_bracket" "read_bracket" sread_bracket fread_bracket dread_bracket
  gread_bracket : mg "read_bracket" = some (.ref fread_bracket)
  fread_end : Addr
  dread_end : FuncData
  Fread_end : Fun K "read_end" "read_end" sread_end fread_end dread_end
  gread_end : mg "read_end" = some (.ref fread_end)
  fread_step : Addr
  dread_step : FuncData
  Fread_step : Fun K "read_step" "read_step" sread_step fread_step dread_step
  gread_step : mg "read_step" = some (.ref fread_step)
  fread_for : Addr
  dread_for : FuncData
  Fread_for : Fun K "read_for" "read_for" sread_for fread_for dread_for
  gread_for : mg "read_for" = some (.ref fread_for)
  fread_if : Addr
  dread_if : FuncData
  Fread_if : Fun K "read_if" "read_if" sread_if fread_if dread_if
  gread_if : mg "read_if" = some (.ref fread_if)
  fread_double : Addr
  dread_double : FuncData
  Fread_double : Fun K "read_double" "read_double" sread_double fread_double dread_double
  gread_double : mg "read_double" = some (.ref fread_double)
  fread_call : Addr
  dread_call : FuncData
  Fread_call : Fun K "read_call" "read_call" sread_call fread_call dread_call
  gread_call : mg "read_call" = some (.ref fread_call)
  fread_again : Addr
  dread_again : FuncData
  Fread_again : Fun K "read_again" "read_again" sread_again fread_again dread_again
  gread_again : mg "read_again" = some (.ref fread_again)
  fl_begin : Addr
  dl_begin : FuncData
  Fl_begin : Fun K "_law_begin" "_law_begin" sl_begin fl_begin dl_begin
  gl_begin : mg "_law_begin" = some (.ref fl_begin)
  fl_end_text : Addr
  dl_end_text : FuncData
  Fl_end_text : Fun K "_law_end_text" "_law_end_text" sl_end_text fl_end_text dl_end_text
  gl_end_text : mg "_law_end_text" = some (.ref fl_end_text)
  fl_thing_text : Addr
  dl_thing_text : FuncData
  Fl_thing_text : Fun K "_law_thing_text" "_law_thing_text" sl_thing_text fl_thing_text dl_thing_text
  gl_thing_text : mg "_law_thing_text" = some (.ref fl_thing_text)
  fl_written : Addr
  dl_written : FuncData
  Fl_written : Fun K "_law_written" "_law_written" sl_written fl_written dl_written
  gl_written : mg "_law_written" = some (.ref fl_written)
  fl_take : Addr
  dl_take : FuncData
  Fl_take : Fun K "_law_take" "_law_take" sl_take fl_take dl_take
  gl_take : mg "_law_take" = some (.ref fl_take)
  fl_pick : Addr
  dl_pick : FuncData
  Fl_pick : Fun K "_law_pick" "_law_pick" sl_pick fl_pick dl_pick
  gl_pick : mg "_law_pick" = some (.ref fl_pick)
  fl_some_end : Addr
  dl_some_end : FuncData
  Fl_some_end : Fun K "_law_some_end" "_law_some_end" sl_some_end fl_some_end dl_some_end
  gl_some_end : mg "_law_some_end" = some (.ref fl_some_end)
  fl_leaf : Addr
  dl_leaf : FuncData
  Fl_leaf : Fun K "_law_leaf" "_law_leaf" sl_leaf fl_leaf dl_leaf
  gl_leaf : mg "_law_leaf" = some (.ref fl_leaf)
  fl_kept_words : Addr
  dl_kept_words : FuncData
  Fl_kept_words : Fun K "_law_kept_words" "_law_kept_words" sl_kept_words fl_kept_words dl_kept_words
  gl_kept_words : mg "_law_kept_words" = some (.ref fl_kept_words)
  fl_fresh : Addr
  dl_fresh : FuncData
  Fl_fresh : Fun K "_law_fresh" "_law_fresh" sl_fresh fl_fresh dl_fresh
  gl_fresh : mg "_law_fresh" = some (.ref fl_fresh)
  fl_drawn_thing : Addr
  dl_drawn_thing : FuncData
  Fl_drawn_thing : Fun K "_law_drawn_thing" "_law_drawn_thing" sl_drawn_thing fl_drawn_thing dl_drawn_thing
  gl_drawn_thing : mg "_law_drawn_thing" = some (.ref fl_drawn_thing)
  fl_drawn_body : Addr
  dl_drawn_body : FuncData
  Fl_drawn_body : Fun K "_law_drawn_body" "_law_drawn_body" sl_drawn_body fl_drawn_body dl_drawn_body
  gl_drawn_body : mg "_law_drawn_body" = some (.ref fl_drawn_body)
  fl_drawn : Addr
  dl_drawn : FuncData
  Fl_drawn : Fun K "_law_drawn" "_law_drawn" sl_drawn fl_drawn dl_drawn
  gl_drawn : mg "_law_drawn" = some (.ref fl_drawn)
  fl_spoilt_text : Addr
  dl_spoilt_text : FuncData
  Fl_spoilt_text : Fun K "_law_spoilt_text" "_law_spoilt_text" sl_spoilt_text fl_spoilt_text dl_spoilt_text
  gl_spoilt_text : mg "_law_spoilt_text" = some (.ref fl_spoilt_text)
  fl_same : Addr
  dl_same : FuncData
  Fl_same : Fun K "_law_same" "_law_same" sl_same fl_same dl_same
  gl_same : mg "_law_same" = some (.ref fl_same)
  fl_class : Addr
  dl_class : FuncData
  Fl_class : Fun K "_law_class" "_law_class" sl_class fl_class dl_class
  gl_class : mg "_law_class" = some (.ref fl_class)
  fl_tried : Addr
  dl_tried : FuncData
  Fl_tried : Fun K "_law_tried" "_law_tried" sl_tried fl_tried dl_tried
  gl_tried : mg "_law_tried" = some (.ref fl_tried)
  fl_cut_up : Addr
  dl_cut_up : FuncData
  Fl_cut_up : Fun K "_law_cut_up" "_law_cut_up" sl_cut_up fl_cut_up dl_cut_up
  gl_cut_up : mg "_law_cut_up" = some (.ref fl_cut_up)
  fl_figure : Addr
  dl_figure : FuncData
  Fl_figure : Fun K "_law_figure" "_law_figure" sl_figure fl_figure dl_figure
  gl_figure : mg "_law_figure" = some (.ref fl_figure)
  fl_is_name : Addr
  dl_is_name : FuncData
  Fl_is_name : Fun K "_law_is_name" "_law_is_name" sl_is_name fl_is_name dl_is_name
  gl_is_name : mg "_law_is_name" = some (.ref fl_is_name)
  fl_read_end : Addr
  dl_read_end : FuncData
  Fl_read_end : Fun K "_law_read_end" "_law_read_end" sl_read_end fl_read_end dl_read_end
  gl_read_end : mg "_law_read_end" = some (.ref fl_read_end)
  fl_read_leaf : Addr
  dl_read_leaf : FuncData
  Fl_read_leaf : Fun K "_law_read_leaf" "_law_read_leaf" sl_read_leaf fl_read_leaf dl_read_leaf
  gl_read_leaf : mg "_law_read_leaf" = some (.ref fl_read_leaf)
  fl_read_ends : Addr
  dl_read_ends : FuncData
  Fl_read_ends : Fun K "_law_read_ends" "_law_read_ends" sl_read_ends fl_read_ends dl_read_ends
  gl_read_ends : mg "_law_read_ends" = some (.ref fl_read_ends)
  fl_read_bracket : Addr
  dl_read_bracket : FuncData
  Fl_read_bracket : Fun K "_law_read_bracket" "_law_read_bracket" sl_read_bracket fl_read_bracket dl_read_bracket
  gl_read_bracket : mg "_law_read_bracket" = some (.ref fl_read_bracket)
  fl_read_thing : Addr
  dl_read_thing : FuncData
  Fl_read_thing : Fun K "_law_read_thing" "_law_read_thing" sl_read_thing fl_read_thing dl_read_thing
  gl_read_thing : mg "_law_read_thing" = some (.ref fl_read_thing)
  fl_read_body : Addr
  dl_read_body : FuncData
  Fl_read_body : Fun K "_law_read_body" "_law_read_body" sl_read_body fl_read_body dl_read_body
  gl_read_body : mg "_law_read_body" = some (.ref fl_read_body)
  fl_reading : Addr
  dl_reading : FuncData
  Fl_reading : Fun K "_law_reading" "_law_reading" sl_reading fl_reading dl_reading
  gl_reading : mg "_law_reading" = some (.ref fl_reading)
  flaw : Addr
  dlaw : FuncData
  Flaw : Fun K "law" "law" slaw flaw dlaw
  glaw : mg "law" = some (.ref flaw)
  mabs : mg "abs" = none
  mall : mg "all" = none
  mbool : mg "bool" = none
  mint : mg "int" = none
  misinstance : mg "isinstance" = none
  mlen : mg "len" = none
  mlist : mg "list" = none
  mmin : mg "min" = none
  mrange : mg "range" = none
  mread_rest : mg "read_rest" = none
  msorted : mg "sorted" = none
  mstr : mg "str" = none
  mtuple : mg "tuple" = none
  mzip : mg "zip" = none
  cMOST_LETTERS : ∃ u, mg "MOST_LETTERS" = some u ∧ RelV (.int 8) u
  cMOST_NUMBER_FIGURES : ∃ u, mg "MOST_NUMBER_FIGURES" = some u ∧ RelV (.int 2) u
  cMOST_NUMBER : ∃ u, mg "MOST_NUMBER" = some u ∧ RelV (.int 99) u
  cMOST_AGAIN : ∃ u, mg "MOST_AGAIN" = some u ∧ RelV (.int 9) u
  cMOST_THINGS : ∃ u, mg "MOST_THINGS" = some u ∧ RelV (.int 12) u
  cMOST_BRACKETS : ∃ u, mg "MOST_BRACKETS" = some u ∧ RelV (.int 4) u
  cLETTERS : ∃ u, mg "LETTERS" = some u ∧ RelV (.str "abcdefghijklmnopqrstuvwxyz") u
  cFIGURES : ∃ u, mg "FIGURES" = some u ∧ RelV (.str "0123456789") u
  aNO_NAMES : Addr
  cNO_NAMES : ∃ u, mg "NO_NAMES" = some u ∧ RelV (.ref aNO_NAMES) u
  tNO_NAMES : ∀ H : Hp, SqT K H aNO_NAMES [.str "step", .str "for", .str "from", .str "to", .str "if", .str "else", .str "double", .str "call", .str "with", .str "again", .str "on", .str "halves", .str "thirds", .str "less", .str "n"]
  cSINGLE_SIGNS : ∃ u, mg "SINGLE_SIGNS" = some u ∧ RelV (.str "();+-") u
  aREADERS : Addr
  cREADERS : ∃ u, mg "READERS" = some u ∧ RelV (.ref aREADERS) u
  eREADERS : Array DictEntry
  nREADERS : Nat
  DREADERS : KDict K w aREADERS eREADERS nREADERS
  kREADERS_step : KDct K w aREADERS "step" (.ref fread_step)
  sREADERS_step : PySem.W.nsIn K aREADERS "step" = some (some (.ref fread_step))
  kREADERS_for : KDct K w aREADERS "for" (.ref fread_for)
  sREADERS_for : PySem.W.nsIn K aREADERS "for" = some (some (.ref fread_for))
  kREADERS_if : KDct K w aREADERS "if" (.ref fread_if)
  sREADERS_if : PySem.W.nsIn K aREADERS "if" = some (some (.ref fread_if))
  kREADERS_double : KDct K w aREADERS "double" (.ref fread_double)
  sREADERS_double : PySem.W.nsIn K aREADERS "double" = some (some (.ref fread_double))
  kREADERS_call : KDct K w aREADERS "call" (.ref fread_call)
  sREADERS_call : PySem.W.nsIn K aREADERS "call" = some (some (.ref fread_call))
  kREADERS_again : KDct K w aREADERS "again" (.ref fread_again)
  sREADERS_again : PySem.W.nsIn K aREADERS "again" = some (some (.ref fread_again))
theorem Tops.bis_name {w : World} {K : PySem.W.Frag} {mg : Str → Option Value} (T : Tops w K mg) : Binds K T.dis_name ["text"] [] := T.Fis_name.binds (ps := ["text"]) fun _ _ _ _ _ _ us hl => match us, hl with | [_], _ => rfl
theorem Tops.brun_end {w : World} {K : PySem.W.Frag} {mg : Str → Option Value} (T : Tops w K mg) : Binds K T.drun_end ["text", "at", "kind"] [] := T.Frun_end.binds (ps := ["text", "at", "kind"]) fun _ _ _ _ _ _ us hl => match us, hl with | [_, _, _], _ => rfl
theorem Tops.bword_end {w : World} {K : PySem.W.Frag} {mg : Str → Option Value} (T : Tops w K mg) : Binds K T.dword_end ["text", "at"] [] := T.Fword_end.binds (ps := ["text", "at"]) fun _ _ _ _ _ _ us hl => match us, hl with | [_, _], _ => rfl
theorem Tops.bnumber_end {w : World} {K : PySem.W.Frag} {mg : Str → Option Value} (T : Tops w K mg) : Binds K T.dnumber_end ["text", "at"] [] := T.Fnumber_end.binds (ps := ["text", "at"]) fun _ _ _ _ _ _ us hl => match us, hl with | [_, _], _ => rfl
theorem Tops.bsign_end {w : World} {K : PySem.W.Frag} {mg : Str → Option Value} (T : Tops w K mg) : Binds K T.dsign_end ["text", "at"] [] := T.Fsign_end.binds (ps := ["text", "at"]) fun _ _ _ _ _ _ us hl => match us, hl with | [_, _], _ => rfl
theorem Tops.bsigns_of {w : World} {K : PySem.W.Frag} {mg : Str → Option Value} (T : Tops w K mg) : Binds K T.dsigns_of ["text"] [] := T.Fsigns_of.binds (ps := ["text"]) fun _ _ _ _ _ _ us hl => match us, hl with | [_], _ => rfl
theorem Tops.bReader___init__ {w : World} {K : PySem.W.Frag} {mg : Str → Option Value} (T : Tops w K mg) : Binds K T.dReader___init__ ["self", "text"] [] := T.FReader___init__.binds (ps := ["self", "text"]) fun _ _ _ _ _ _ us hl => match us, hl with | [_, _], _ => rfl
theorem Tops.bReader_sign {w : World} {K : PySem.W.Frag} {mg : Str → Option Value} (T : Tops w K mg) : Binds K T.dReader_sign ["self"] [] := T.FReader_sign.binds (ps := ["self"]) fun _ _ _ _ _ _ us hl => match us, hl with | [_], _ => rfl
theorem Tops.bReader_spot {w : World} {K : PySem.W.Frag} {mg : Str → Option Value} (T : Tops w K mg) : Binds K T.dReader_spot ["self"] [] := T.FReader_spot.binds (ps := ["self"]) fun _ _ _ _ _ _ us hl => match us, hl with | [_], _ => rfl
theorem Tops.bReader_take_if {w : World} {K : PySem.W.Frag} {mg : Str → Option Value} (T : Tops w K mg) : Binds K T.dReader_take_if ["self", "fits"] [] := T.FReader_take_if.binds (ps := ["self", "fits"]) fun _ _ _ _ _ _ us hl => match us, hl with | [_, _], _ => rfl
theorem Tops.bReader_take {w : World} {K : PySem.W.Frag} {mg : Str → Option Value} (T : Tops w K mg) : Binds K T.dReader_take ["self", "wanted"] [] := T.FReader_take.binds (ps := ["self", "wanted"]) fun _ _ _ _ _ _ us hl => match us, hl with | [_, _], _ => rfl
theorem Tops.bReader_take_name {w : World} {K : PySem.W.Frag} {mg : Str → Option Value} (T : Tops w K mg) : Binds K T.dReader_take_name ["self"] [] := T.FReader_take_name.binds (ps := ["self"]) fun _ _ _ _ _ _ us hl => match us, hl with | [_], _ => rfl
theorem Tops.bReader_take_number {w : World} {K : PySem.W.Frag} {mg : Str → Option Value} (T : Tops w K mg) : Binds K T.dReader_take_number ["self", "least", "most"] [] := T.FReader_take_number.binds (ps := ["self", "least", "most"]) fun _ _ _ _ _ _ us hl => match us, hl with | [_, _, _], _ => rfl
theorem Tops.bread_plan {w : World} {K : PySem.W.Frag} {mg : Str → Option Value} (T : Tops w K mg) : Binds K T.dread_plan ["text"] [] := T.Fread_plan.binds (ps := ["text"]) fun _ _ _ _ _ _ us hl => match us, hl with | [_], _ => rfl
theorem Tops.bread_body {w : World} {K : PySem.W.Frag} {mg : Str → Option Value} (T : Tops w K mg) : Binds K T.dread_body ["reader"] [] := T.Fread_body.binds (ps := ["reader"]) fun _ _ _ _ _ _ us hl => match us, hl with | [_], _ => rfl
theorem Tops.bread_thing {w : World} {K : PySem.W.Frag} {mg : Str → Option Value} (T : Tops w K mg) : Binds K T.dread_thing ["reader"] [] := T.Fread_thing.binds (ps := ["reader"]) fun _ _ _ _ _ _ us hl => match us, hl with | [_], _ => rfl
theorem Tops.bread_bracket {w : World} {K : PySem.W.Frag} {mg : Str → Option Value} (T : Tops w K mg) : Binds K T.dread_bracket ["reader"] [] := T.Fread_bracket.binds (ps := ["reader"]) fun _ _ _ _ _ _ us hl => match us, hl with | [_], _ => rfl
theorem Tops.bread_end {w : World} {K : PySem.W.Frag} {mg : Str → Option Value} (T : Tops w K mg) : Binds K T.dread_end ["reader"] [] := T.Fread_end.binds (ps := ["reader"]) fun _ _ _ _ _ _ us hl => match us, hl with | [_], _ => rfl
theorem Tops.bread_step {w : World} {K : PySem.W.Frag} {mg : Str → Option Value} (T : Tops w K mg) : Binds K T.dread_step ["reader"] [] := T.Fread_step.binds (ps := ["reader"]) fun _ _ _ _ _ _ us hl => match us, hl with | [_], _ => rfl
theorem Tops.bread_for {w : World} {K : PySem.W.Frag} {mg : Str → Option Value} (T : Tops w K mg) : Binds K T.dread_for ["reader"] [] := T.Fread_for.binds (ps := ["reader"]) fun _ _ _ _ _ _ us hl => match us, hl with | [_], _ => rfl
theorem Tops.bread_if {w : World} {K : PySem.W.Frag} {mg : Str → Option Value} (T : Tops w K mg) : Binds K T.dread_if ["reader"] [] := T.Fread_if.binds (ps := ["reader"]) fun _ _ _ _ _ _ us hl => match us, hl with | [_], _ => rfl
theorem Tops.bread_double {w : World} {K : PySem.W.Frag} {mg : Str → Option Value} (T : Tops w K mg) : Binds K T.dread_double ["reader"] [] := T.Fread_double.binds (ps := ["reader"]) fun _ _ _ _ _ _ us hl => match us, hl with | [_], _ => rfl
theorem Tops.bread_call {w : World} {K : PySem.W.Frag} {mg : Str → Option Value} (T : Tops w K mg) : Binds K T.dread_call ["reader"] [] := T.Fread_call.binds (ps := ["reader"]) fun _ _ _ _ _ _ us hl => match us, hl with | [_], _ => rfl
theorem Tops.bread_again {w : World} {K : PySem.W.Frag} {mg : Str → Option Value} (T : Tops w K mg) : Binds K T.dread_again ["reader"] [] := T.Fread_again.binds (ps := ["reader"]) fun _ _ _ _ _ _ us hl => match us, hl with | [_], _ => rfl
theorem Tops.bl_begin {w : World} {K : PySem.W.Frag} {mg : Str → Option Value} (T : Tops w K mg) : Binds K T.dl_begin ["_law_script"] [] := T.Fl_begin.binds (ps := ["_law_script"]) fun _ _ _ _ _ _ us hl => match us, hl with | [_], _ => rfl
theorem Tops.bl_end_text {w : World} {K : PySem.W.Frag} {mg : Str → Option Value} (T : Tops w K mg) : Binds K T.dl_end_text ["_law_end"] [] := T.Fl_end_text.binds (ps := ["_law_end"]) fun _ _ _ _ _ _ us hl => match us, hl with | [_], _ => rfl
theorem Tops.bl_thing_text {w : World} {K : PySem.W.Frag} {mg : Str → Option Value} (T : Tops w K mg) : Binds K T.dl_thing_text ["_law_thing"] [] := T.Fl_thing_text.binds (ps := ["_law_thing"]) fun _ _ _ _ _ _ us hl => match us, hl with | [_], _ => rfl
theorem Tops.bl_written {w : World} {K : PySem.W.Frag} {mg : Str → Option Value} (T : Tops w K mg) : Binds K T.dl_written ["_law_plan"] [] := T.Fl_written.binds (ps := ["_law_plan"]) fun _ _ _ _ _ _ us hl => match us, hl with | [_], _ => rfl
theorem Tops.bl_take {w : World} {K : PySem.W.Frag} {mg : Str → Option Value} (T : Tops w K mg) : Binds K T.dl_take ["_law_draw", "_law_sides"] [] := T.Fl_take.binds (ps := ["_law_draw", "_law_sides"]) fun _ _ _ _ _ _ us hl => match us, hl with | [_, _], _ => rfl
theorem Tops.bl_pick {w : World} {K : PySem.W.Frag} {mg : Str → Option Value} (T : Tops w K mg) : Binds K T.dl_pick ["_law_draw", "_law_row"] [] := T.Fl_pick.binds (ps := ["_law_draw", "_law_row"]) fun _ _ _ _ _ _ us hl => match us, hl with | [_, _], _ => rfl
theorem Tops.bl_some_end {w : World} {K : PySem.W.Frag} {mg : Str → Option Value} (T : Tops w K mg) : Binds K T.dl_some_end ["_law_draw", "_law_scope", "_law_wide"] [] := T.Fl_some_end.binds (ps := ["_law_draw", "_law_scope", "_law_wide"]) fun _ _ _ _ _ _ us hl => match us, hl with | [_, _, _], _ => rfl
theorem Tops.bl_leaf {w : World} {K : PySem.W.Frag} {mg : Str → Option Value} (T : Tops w K mg) : Binds K T.dl_leaf ["_law_draw", "_law_kit", "_law_scope", "_law_deep"] [] := T.Fl_leaf.binds (ps := ["_law_draw", "_law_kit", "_law_scope", "_law_deep"]) fun _ _ _ _ _ _ us hl => match us, hl with | [_, _, _, _], _ => rfl
theorem Tops.bl_kept_words {w : World} {K : PySem.W.Frag} {mg : Str → Option Value} (T : Tops w K mg) : Binds K T.dl_kept_words [] [] := T.Fl_kept_words.binds (ps := []) fun _ _ _ _ _ _ us hl => match us, hl with | [], _ => rfl
theorem Tops.bl_fresh {w : World} {K : PySem.W.Frag} {mg : Str → Option Value} (T : Tops w K mg) : Binds K T.dl_fresh ["_law_draw", "_law_taken"] [] := T.Fl_fresh.binds (ps := ["_law_draw", "_law_taken"]) fun _ _ _ _ _ _ us hl => match us, hl with | [_, _], _ => rfl
theorem Tops.bl_drawn_thing {w : World} {K : PySem.W.Frag} {mg : Str → Option Value} (T : Tops w K mg) : Binds K T.dl_drawn_thing ["_law_draw", "_law_kit", "_law_scope", "_law_deep"] [] := T.Fl_drawn_thing.binds (ps := ["_law_draw", "_law_kit", "_law_scope", "_law_deep"]) fun _ _ _ _ _ _ us hl => match us, hl with | [_, _, _, _], _ => rfl
theorem Tops.bl_drawn_body {w : World} {K : PySem.W.Frag} {mg : Str → Option Value} (T : Tops w K mg) : Binds K T.dl_drawn_body ["_law_draw", "_law_kit", "_law_scope", "_law_deep"] [] := T.Fl_drawn_body.binds (ps := ["_law_draw", "_law_kit", "_law_scope", "_law_deep"]) fun _ _ _ _ _ _ us hl => match us, hl with | [_, _, _, _], _ => rfl
theorem Tops.bl_drawn {w : World} {K : PySem.W.Frag} {mg : Str → Option Value} (T : Tops w K mg) : Binds K T.dl_drawn ["_law_draw", "_law_room", "_law_figures", "_law_wide"] [] := T.Fl_drawn.binds (ps := ["_law_draw", "_law_room", "_law_figures", "_law_wide"]) fun _ _ _ _ _ _ us hl => match us, hl with | [_, _, _, _], _ => rfl
theorem Tops.bl_spoilt_text {w : World} {K : PySem.W.Frag} {mg : Str → Option Value} (T : Tops w K mg) : Binds K T.dl_spoilt_text ["_law_draw", "_law_text"] [] := T.Fl_spoilt_text.binds (ps := ["_law_draw", "_law_text"]) fun _ _ _ _ _ _ us hl => match us, hl with | [_, _], _ => rfl
theorem Tops.bl_same {w : World} {K : PySem.W.Frag} {mg : Str → Option Value} (T : Tops w K mg) : Binds K T.dl_same ["_law_found", "_law_due"] [] := T.Fl_same.binds (ps := ["_law_found", "_law_due"]) fun _ _ _ _ _ _ us hl => match us, hl with | [_, _], _ => rfl
theorem Tops.bl_class {w : World} {K : PySem.W.Frag} {mg : Str → Option Value} (T : Tops w K mg) : Binds K T.dl_class ["_law_e"] [] := T.Fl_class.binds (ps := ["_law_e"]) fun _ _ _ _ _ _ us hl => match us, hl with | [_], _ => rfl
theorem Tops.bl_tried {w : World} {K : PySem.W.Frag} {mg : Str → Option Value} (T : Tops w K mg) : Binds K T.dl_tried ["_law_ask"] [] := T.Fl_tried.binds (ps := ["_law_ask"]) fun _ _ _ _ _ _ us hl => match us, hl with | [_], _ => rfl
theorem Tops.bl_cut_up {w : World} {K : PySem.W.Frag} {mg : Str → Option Value} (T : Tops w K mg) : Binds K T.dl_cut_up ["_law_text"] [] := T.Fl_cut_up.binds (ps := ["_law_text"]) fun _ _ _ _ _ _ us hl => match us, hl with | [_], _ => rfl
theorem Tops.bl_figure {w : World} {K : PySem.W.Frag} {mg : Str → Option Value} (T : Tops w K mg) : Binds K T.dl_figure ["_law_word", "_law_low", "_law_high"] [] := T.Fl_figure.binds (ps := ["_law_word", "_law_low", "_law_high"]) fun _ _ _ _ _ _ us hl => match us, hl with | [_, _, _], _ => rfl
theorem Tops.bl_is_name {w : World} {K : PySem.W.Frag} {mg : Str → Option Value} (T : Tops w K mg) : Binds K T.dl_is_name ["_law_word"] [] := T.Fl_is_name.binds (ps := ["_law_word"]) fun _ _ _ _ _ _ us hl => match us, hl with | [_], _ => rfl
theorem Tops.bl_read_end {w : World} {K : PySem.W.Frag} {mg : Str → Option Value} (T : Tops w K mg) : Binds K T.dl_read_end ["_law_signs", "_law_at"] [] := T.Fl_read_end.binds (ps := ["_law_signs", "_law_at"]) fun _ _ _ _ _ _ us hl => match us, hl with | [_, _], _ => rfl
theorem Tops.bl_read_leaf {w : World} {K : PySem.W.Frag} {mg : Str → Option Value} (T : Tops w K mg) : Binds K T.dl_read_leaf ["_law_signs", "_law_at"] [] := T.Fl_read_leaf.binds (ps := ["_law_signs", "_law_at"]) fun _ _ _ _ _ _ us hl => match us, hl with | [_, _], _ => rfl
theorem Tops.bl_read_ends {w : World} {K : PySem.W.Frag} {mg : Str → Option Value} (T : Tops w K mg) : Binds K T.dl_read_ends ["_law_signs", "_law_at", "_law_middle"] [] := T.Fl_read_ends.binds (ps := ["_law_signs", "_law_at", "_law_middle"]) fun _ _ _ _ _ _ us hl => match us, hl with | [_, _, _], _ => rfl
theorem Tops.bl_read_bracket {w : World} {K : PySem.W.Frag} {mg : Str → Option Value} (T : Tops w K mg) : Binds K T.dl_read_bracket ["_law_signs", "_law_at", "_law_deep", "_law_room"] [] := T.Fl_read_bracket.binds (ps := ["_law_signs", "_law_at", "_law_deep", "_law_room"]) fun _ _ _ _ _ _ us hl => match us, hl with | [_, _, _, _], _ => rfl
theorem Tops.bl_read_thing {w : World} {K : PySem.W.Frag} {mg : Str → Option Value} (T : Tops w K mg) : Binds K T.dl_read_thing ["_law_signs", "_law_at", "_law_deep", "_law_room"] [] := T.Fl_read_thing.binds (ps := ["_law_signs", "_law_at", "_law_deep", "_law_room"]) fun _ _ _ _ _ _ us hl => match us, hl with | [_, _, _, _], _ => rfl
theorem Tops.bl_read_body {w : World} {K : PySem.W.Frag} {mg : Str → Option Value} (T : Tops w K mg) : Binds K T.dl_read_body ["_law_signs", "_law_at", "_law_deep", "_law_room"] [] := T.Fl_read_body.binds (ps := ["_law_signs", "_law_at", "_law_deep", "_law_room"]) fun _ _ _ _ _ _ us hl => match us, hl with | [_, _, _, _], _ => rfl
theorem Tops.bl_reading {w : World} {K : PySem.W.Frag} {mg : Str → Option Value} (T : Tops w K mg) : Binds K T.dl_reading ["_law_text"] [] := T.Fl_reading.binds (ps := ["_law_text"]) fun _ _ _ _ _ _ us hl => match us, hl with | [_], _ => rfl
theorem Tops.blaw {w : World} {K : PySem.W.Frag} {mg : Str → Option Value} (T : Tops w K mg) : ∀ (s : Shared) (v : Value), BindsTo s T.dlaw ⟨[v], []⟩ [("_law_script", v)] := by
  obtain ⟨oc, od, kV, doc, pm, an, cdv, ct, osl, e, lk, hcd⟩ := T.Flaw.ex
  intro s v
  rw [e]
  exact .of_eq rfl
section
variable {P : Program} {w : World} {K : PySem.W.Frag} {mg : Str → Option Value} {base : Heap}
theorem ok_begin (T : Tops w K mg) : FnOk P w K mg base CX0 1 T.fl_begin T.dl_begin ["_law_script"] (spBegin K) := by
  refine T.Fl_begin.ok scl_begin (fun vs H Q E h => ?_) (fun cdv A outer s H vs Q E hr h => ?_)
  · obtain ⟨a, ns, rfl, _⟩ := h
    rfl
  obtain ⟨a, ns, rfl, hS, q⟩ := h
  refine ⟨_, (pss_one (ps_ret (pe_lst (pa_cons (pe_callTy call_list_of (by rfl) T.mlist (by decide +kernel) (pa_cons (pe_slice sl_list (pv 0) po_none (po_some pe_int)) pa_nil)) (pa_cons pe_int (pa_cons pe_int (pa_cons pe_int pa_nil))))))), ?_⟩
  refine ⟨_, rfl, 63, rfl, a, _, rfl, hS, fun p np => ?_⟩
  obtain ⟨ms, hms⟩ := cut_map ns none (some 63)
  refine ⟨p, _, rfl, .inl (SqL.of upd_same), fun L nL => ?_⟩
  refine ⟨(by show 4 ≤ sizeLine; decide), fun d nd => ?_⟩
  have nL0 : H L = none := (same_new np).free nL
  have s3 : Same H (upd (upd (upd H p (.lst (cutV (ns.map V.int) none (some 63)))) L (.lst (cutV (ns.map V.int) none (some 63)))) d (.lst [.ref L, .int 0, .int 0, .int 37])) :=
    ((same_new np).trans (same_new nL)).trans (same_new nd)
  have nd0 : H d = none := ((same_new np).trans (same_new nL)).free nd
  refine q d L _ s3 nd0 nL0 ⟨ms, 0, 0, 37, upd_same, ?_, by decide, by decide, by decide, by decide⟩
  rw [upd_ne (ne_of_none (upd_same) nd), upd_same, hms]
theorem ok_take (T : Tops w K mg) : FnOk P w K mg base CX0 1 T.fl_take T.dl_take ["_law_draw", "_law_sides"] spTake := by
  refine T.Fl_take.ok scl_take (fun vs H Q E h => ?_) (fun cdv A outer s H vs Q E hr h => ?_)
  · obtain ⟨d, L, k, rfl, _⟩ := h
    rfl
  obtain ⟨d, L, k, rfl, hD, k1, k2, q⟩ := h
  refine ⟨_, (pss_cut (ps_if (PW.pt (pw_and (pt_cmpR op_lt (pe_ix ix_list (pv 0) pe_int (fun _ _ => rfl)) (pv 1) (nomark _)) (pw_and1 (pt_cmpR op_lt (pe_ix ix_list (pv 0) pe_int (fun _ _ => rfl)) (pe_callB call_len_seq (by rfl) T.mlen PySem.boot_len (pa_cons (pe_ix ix_list (pv 0) pe_int (fun _ _ => rfl)) pa_nil)) (nomark _)))))
  (pss_cons (ps_set (i := 2) scl_take.nd rfl (Or.inl rfl) (pe_ix ix_list (pe_ix ix_list (pv 0) pe_int (fun _ _ => rfl)) (pe_ix ix_list (pv 0) pe_int (fun _ _ => rfl)) (fun _ _ => rfl)))
 (pss_cons (ps_asg (pe_op op_add (pe_ix ix_list (pv 0) pe_int (fun _ _ => rfl)) pe_int) (pg_sub (pv 0) pe_int set_list))
 (pss_cons (ps_asg pe_int (pg_sub (pv 0) pe_int set_list))
 (pss_one (ps_if (pt_cmpR op_ge (pe_callB call_abs (by rfl) T.mabs (by decide +kernel) (pa_cons (pv 2) pa_nil)) (pe_op op_pow pe_int pe_int) (nomark _))
  (pss_one (ps_asg (pe_callB call_abs (by rfl) T.mabs (by decide +kernel) (pa_cons (pv 2) pa_nil)) (pg_sub (pv 0) pe_int set_list)))
  (pss_one (ps_asg (pe_op op_mod (pe_op op_add (pe_op op_add (pe_op op_mul (pe_ix ix_list (pv 0) pe_int (fun _ _ => rfl)) pe_int) (pe_op op_mul (pe_op op_mod (pv 2) pe_int) pe_int)) pe_int) pe_int) (pg_sub (pv 0) pe_int set_list))))))))
  pss_nil)
 (pss_cons (ps_if (pt_cmpR op_ge (pe_ix ix_list (pv 0) pe_int (fun _ _ => rfl)) (pv 1) (nomark _))
  (pss_cons (ps_set (i := 3) scl_take.nd rfl (Or.inl rfl) (pe_op op_mod (pe_ix ix_list (pv 0) pe_int (fun _ _ => rfl)) (pv 1)))
 (pss_cons (ps_asg (pe_op op_fdiv (pe_ix ix_list (pv 0) pe_int (fun _ _ => rfl)) (pv 1)) (pg_sub (pv 0) pe_int set_list))
 (pss_one (ps_ret (pv 3)))))
  pss_nil)
 (pss_cons (ps_asg (pe_op op_mod (pe_op op_add (pe_op op_add (pe_op op_mul (pe_op op_mod (pe_op op_mul (pe_ix ix_list (pv 0) pe_int (fun _ _ => rfl)) (pe_ix ix_list (pv 0) pe_int (fun _ _ => rfl))) pe_int) pe_int) (pe_op op_mul (pe_ix ix_list (pv 0) pe_int (fun _ _ => rfl)) pe_int)) pe_int) pe_int) (pg_sub (pv 0) pe_int set_list))
 (pss_one (ps_ret (pe_op op_mod (pe_op op_add (pe_op op_fdiv (pe_ix ix_list (pv 0) pe_int (fun _ _ => rfl)) pe_int) (pe_op op_mul (pe_op op_mod (pe_ix ix_list (pv 0) pe_int (fun _ _ => rfl)) pe_int) pe_int)) (pv 1))))))), ?_⟩
  have hne := hD.ne
  refine ⟨fun σ' H' => (∃ x y, σ' = [some (.ref d), some (.int k), x, y]) ∧ Dr H' d L ∧ But d H H', ?_, ?_⟩
  · obtain ⟨ns, i, r, s, hd, hL, i0, r0, s0, s1⟩ := id hD
    refine ⟨_, rfl, d, _, 2, _, rfl, rfl, SqL.of hd, rfl, _, rfl, r, k, rfl, rfl, _, rfl, ite2 (fun c1 => ?_) (fun c1 => ?_)⟩
    · refine ⟨_, rfl, d, _, 1, _, rfl, rfl, SqL.of hd, rfl, _, rfl, d, _, 0, _, rfl, rfl, SqL.of hd, rfl, L, _, rfl, .inl (SqL.of hL), i, _, rfl, rfl, _, rfl, ite2 (fun c2 => ?_) (fun c2 => ?_)⟩
      · have c3 : i < ((ns.map V.int).length : Int) := of_decide_eq_true c2
        obtain ⟨v, hv, hm⟩ := atI_lt (xs := ns.map V.int) i0 c3
        obtain ⟨n, _, rfl⟩ := List.mem_map.mp hm
        refine ⟨_, rfl, d, _, 0, _, rfl, rfl, SqL.of hd, rfl, _, rfl, d, _, 1, _, rfl, rfl, SqL.of hd, rfl, L, _, i, _, rfl, rfl, SqL.of hL, hv, ?_⟩
        refine ⟨_, rfl, d, _, 1, _, rfl, rfl, SqL.of hd, rfl, i, 1, rfl, rfl, _, rfl, d, _, 1, 1, rfl, rfl, hd, rfl, ?_⟩
        refine ⟨_, rfl, d, _, 2, 2, rfl, rfl, upd_same, rfl, ?_⟩
        rw [upd_upd]
        refine ⟨_, rfl, n, rfl, 10, 18, rfl, rfl, ⟨by decide, by decide, by decide⟩, _, _, rfl, rfl, _, rfl, ite2 (fun c4 => ?_) (fun c4 => ?_)⟩
        · refine ⟨_, rfl, n, rfl, _, rfl, d, _, 2, 2, rfl, rfl, upd_same, rfl, ?_⟩
          rw [upd_upd]
          exact ⟨⟨_, _, rfl⟩, dr_set hL hne (by omega) (by split <;> omega) s0 s1, but_upd⟩
        · refine ⟨_, rfl, d, _, 3, _, rfl, rfl, SqL.of upd_same, rfl, s, 48271, rfl, rfl, .inr ⟨by decide, by decide⟩, _, rfl, n, 2147483629, rfl, rfl, (show (0 : Int) < 2147483629 by decide), _, 69621, rfl, rfl, .inr ⟨by decide, by decide⟩, _, _, rfl, rfl, _, 12345, rfl, rfl, _, 2147483647, rfl, rfl, (show (0 : Int) < 2147483647 by decide), _, rfl, d, _, 3, 3, rfl, rfl, upd_same, rfl, ?_⟩
          rw [upd_upd]
          have z := mod_lt (a := s * 48271 + n % 2147483629 * 69621 + 12345) (k := 2147483647) (by decide)
          exact ⟨⟨_, _, rfl⟩, dr_set hL hne (by omega) (Int.le_refl 0) z.1 z.2, but_upd⟩
      · exact ⟨⟨_, _, rfl⟩, hD, But.refl d H⟩
    · exact ⟨⟨_, _, rfl⟩, hD, But.refl d H⟩
  · rintro σ' H' ⟨⟨x, y, rfl⟩, hD', hB⟩
    obtain ⟨ns, i, r, s, hd, hL, i0, r0, s0, s1⟩ := id hD'
    refine ⟨_, rfl, d, _, 2, _, rfl, rfl, SqL.of hd, rfl, _, rfl, r, k, rfl, rfl, _, rfl, ite2 (fun c1 => ?_) (fun c1 => ?_)⟩
    · refine ⟨_, rfl, d, _, 2, _, rfl, rfl, SqL.of hd, rfl, _, rfl, r, k, rfl, rfl, (show (0 : Int) < k by omega), ?_⟩
      refine ⟨_, rfl, d, _, 2, _, rfl, rfl, SqL.of hd, rfl, _, rfl, r, k, rfl, rfl, ⟨by omega, k2⟩, _, rfl, d, _, 2, 2, rfl, rfl, hd, rfl, ?_⟩
      have z := mod_lt (a := r) k1
      refine ⟨_, rfl, q _ _ z.1 z.2 (dr_set hL hne i0 (Int.ediv_nonneg r0 (by omega)) s0 s1) (hB.trans but_upd)⟩
    · refine ⟨_, rfl, d, _, 3, _, rfl, rfl, SqL.of hd, rfl, _, rfl, d, _, 3, _, rfl, rfl, SqL.of hd, rfl, s, s, rfl, rfl, .inl ⟨by omega, by omega⟩, _, 2147483629, rfl, rfl, (show (0 : Int) < 2147483629 by decide), _, 5, rfl, rfl, .inr ⟨by decide, by decide⟩,
        _, rfl, d, _, 3, _, rfl, rfl, SqL.of hd, rfl, s, 16811, rfl, rfl, .inr ⟨by decide, by decide⟩, _, _, rfl, rfl, _, 2531011, rfl, rfl, _, 2147483647, rfl, rfl, (show (0 : Int) < 2147483647 by decide), _, rfl, d, _, 3, 3, rfl, rfl, hd, rfl, ?_⟩
      have z := mod_lt (a := s * s % 2147483629 * 5 + s * 16811 + 2531011) (k := 2147483647) (by decide)
      refine ⟨_, rfl, d, _, 3, _, rfl, rfl, SqL.of upd_same, rfl, _, 61, rfl, rfl, ⟨by decide, by decide⟩, _, rfl, d, _, 3, _, rfl, rfl, SqL.of upd_same, rfl, _, 8191, rfl, rfl, (show (0 : Int) < 8191 by decide), _, 31, rfl, rfl, .inr ⟨by decide, by decide⟩, _, _, rfl, rfl, _, rfl, _, k, rfl, rfl, (show (0 : Int) < k by omega), ?_⟩
      exact q _ _ (mod_lt k1).1 (mod_lt k1).2 (dr_set hL hne i0 r0 z.1 z.2) (hB.trans but_upd)
theorem ok_pick (T : Tops w K mg) : FnOk P w K mg base CX0 2 T.fl_pick T.dl_pick ["_law_draw", "_law_row"] (spPick K) := by
  have Gl_take : FnOk P w K mg base CX0 1 T.fl_take T.dl_take ["_law_draw", "_law_sides"] spTake := ok_take T
  refine T.Fl_pick.ok scl_pick (fun vs H Q E h => ?_) (fun cdv A outer s H vs Q E hr h => ?_)
  · obtain ⟨d, L, x, n, rfl, _⟩ := h
    rfl
  obtain ⟨d, L, x, n, rfl, hD, n0, n1, q⟩ := h
  refine ⟨_, (pss_one (ps_ret (pe_ix ix_seq (pv 1) (pe_call Gl_take (hr.mono (by omega)) (by rfl) T.gl_take T.Fl_take.kp T.bl_take .nil pass0 (pa_cons (pv 0) (pa_cons (pe_callB call_len (by rfl) T.mlen PySem.boot_len (pa_cons (pv 1) pa_nil)) pa_nil))) (fun _ _ => rfl)))), ?_⟩
  rcases q with ⟨z, rfl, rfl, q⟩ | ⟨a, xs, rfl, na, hS, rfl, q⟩
  · refine ⟨_, rfl, _, rfl, _, rfl, .str z, z.length, rfl, ⟨sz (by omega), rfl⟩, d, L, (z.length : Int), rfl, hD, by omega, by omega, fun g H' g0 g1 hD' hB => ?_⟩
    have e := len_tl z
    obtain ⟨c, hc, hm⟩ := atI_lt (xs := tl z) g0 (by omega)
    exact .inr (.inr ⟨z, g, c, rfl, rfl, sz (by omega), hc, q c H' hm hD' hB⟩)
  · refine ⟨_, rfl, _, rfl, _, rfl, .ref a, xs.length, rfl, .inl ⟨xs, hS, rfl⟩, d, L, (xs.length : Int), rfl, hD, by omega, by omega, fun g H' g0 g1 hD' hB => ?_⟩
    obtain ⟨v, hv, hm⟩ := atI_lt (xs := xs) g0 (by omega)
    exact .inl ⟨a, xs, g, v, rfl, rfl, SqL.but hS hB na, hv, q v H' hm hD' hB⟩
theorem ok_kept (T : Tops w K mg) : FnOk P w K mg base CX0 1 T.fl_kept_words T.dl_kept_words [] spKept := by
  refine T.Fl_kept_words.ok scl_kept_words (fun vs H Q E h => ?_) (fun cdv A outer s H vs Q E hr h => ?_)
  · obtain ⟨rfl, _⟩ := h
    rfl
  obtain ⟨rfl, q⟩ := h
  refine ⟨_, (pss_one (ps_ret (pe_split pe_str pe_str))), ?_⟩
  refine ⟨⟨_, rfl⟩, _, _, rfl, rfl, by decide +kernel, by decide +kernel, fun p np => ?_⟩
  refine q p _ np ?_
  rw [kept_split]
end
end K05

set_option Elab.async false
set_option linter.all false
set_option maxRecDepth 100000
set_option maxHeartbeats 4000000
namespace K05
open PySem PySem.Spec PyProof.Rows L2 OG
open C8 (pss_cut pe_gc)
open OGX

section
variable {P : Program} {w : World} {K : PySem.W.Frag} {mg : Str → Option Value} {base : Heap}
theorem plain_of {K : PySem.W.Frag} {v : V} (h : flatV v = true) (hn : v ≠ .non) : ∃ (t : String) (b1 b2 b3 : Bool), (∀ H', TyX K H' v (.type t)) ∧ kitB t "list" = some false ∧ kitB t "tuple" = some false ∧ kitB t "bool" = some b1 ∧ kitB t "int" = some b2 ∧ kitB t "str" = some b3 ∧ scal v v = true := by
  cases v with
  | non => exact absurd rfl hn
  | bl b => exact ⟨"bool", true, true, false, fun _ => .base (.bl b), by decide +kernel, by decide +kernel, by decide +kernel, by decide +kernel, by decide +kernel, rfl⟩
  | int i => exact ⟨"int", false, true, false, fun _ => .base (.int i), by decide +kernel, by decide +kernel, by decide +kernel, by decide +kernel, by decide +kernel, rfl⟩
  | str z => exact ⟨"str", false, false, true, fun _ => .base (.str z), by decide +kernel, by decide +kernel, by decide +kernel, by decide +kernel, by decide +kernel, rfl⟩
  | byt _ => cases h
  | flt _ => cases h
  | ref _ => cases h
  | ty _ => cases h
theorem ok_same1 (T : Tops w K mg) (n : Nat) (Gl_same : FnOk P w K mg base CX0 n T.fl_same T.dl_same ["_law_found", "_law_due"] (prevS n)) : FnOk P w K mg base CX0 (n + 1) T.fl_same T.dl_same ["_law_found", "_law_due"] (spSame n) := by
  refine T.Fl_same.ok (k := n) scl_same (fun vs H Q E h => ?_) (fun cdv A outer s H vs Q E hr h => ?_)
  · obtain ⟨v, w, rfl, _⟩ := h
    rfl
  obtain ⟨v, w, rfl, hE, q⟩ := h
  refine ⟨_, (pss_cons (ps_if (pt_val (pe_callB call_isiT (by rfl) T.misinstance (by decide +kernel) (pa_cons (pv 1) (pa_cons (pe_tup (pa_cons (pe_bltn (v := .ty "list") (by rfl) T.mlist (by decide +kernel) rfl) (pa_cons (pe_bltn (v := .ty "tuple") (by rfl) T.mtuple (by decide +kernel) rfl) pa_nil))) pa_nil))))
  (pss_cons (ps_if (PW.pt (pw_or (pt_cmpR op_ne (pe_callB call_isi (by rfl) T.misinstance (by decide +kernel) (pa_cons (pv 0) (pa_cons (pe_bltn (v := .ty "list") (by rfl) T.mlist (by decide +kernel) rfl) pa_nil))) (pe_callB call_isi (by rfl) T.misinstance (by decide +kernel) (pa_cons (pv 1) (pa_cons (pe_bltn (v := .ty "list") (by rfl) T.mlist (by decide +kernel) rfl) pa_nil))) (nomark _)) (pw_or1 (pt_not (pt_val (pe_callB call_isiT (by rfl) T.misinstance (by decide +kernel) (pa_cons (pv 0) (pa_cons (pe_tup (pa_cons (pe_bltn (v := .ty "list") (by rfl) T.mlist (by decide +kernel) rfl) (pa_cons (pe_bltn (v := .ty "tuple") (by rfl) T.mtuple (by decide +kernel) rfl) pa_nil))) pa_nil))))))))
  (pss_one (ps_ret pe_bl))
  pss_nil)
 (pss_one (ps_ret (pe_and (pe_cmpR op_eq (pe_callB call_len (by rfl) T.mlen PySem.boot_len (pa_cons (pv 0) pa_nil)) (pe_callB call_len (by rfl) T.mlen PySem.boot_len (pa_cons (pv 1) pa_nil)) (nomark _)) (pe_one (pe_callB (cr_all rfl) (by rfl) T.mall (by decide +kernel) (pa_cons (pe_lc (own := [("_law_one", 2), ("_law_other", 3)]) rfl scl_same.nd (RZ.pi_zipA (by rfl) T.mzip (pa_cons (pv 0) (pa_cons (pv 1) pa_nil))) (blkOk_by (N := Nl_same) (sc := defScope sl_same) (by decide +kernel)) (fun _ _ _ _ _ => (pg_tupK (K := K) (n := 2) rfl rfl (pgs_cons (pg_name (i := 2) scl_same.nd rfl (Or.inl rfl)) (pgs_cons (pg_name (i := 3) scl_same.nd rfl (Or.inl rfl)) pgs_nil)))) (fun _ _ _ _ _ => pts_nil) (fun _ _ _ _ _ => (pe_call Gl_same (hr.mono (by omega)) (by rfl) T.gl_same T.Fl_same.kp T.bl_same .nil pass0 (pa_cons (pv 2) (pa_cons (pv 3) pa_nil))))) pa_nil)))))))
  pss_nil)
 (pss_cons (ps_if (pt_cmpR op_isN (pv 1) pe_non (nomark _))
  (pss_one (ps_ret (pe_cmpR op_isN (pv 0) pe_non (nomark _))))
  pss_nil)
 (pss_cons (ps_if (PW.pt (pw_or (pt_cmpR op_ne (pe_callB call_isi (by rfl) T.misinstance (by decide +kernel) (pa_cons (pv 0) (pa_cons (pe_bltn (v := .ty "bool") (by rfl) T.mbool (by decide +kernel) rfl) pa_nil))) (pe_callB call_isi (by rfl) T.misinstance (by decide +kernel) (pa_cons (pv 1) (pa_cons (pe_bltn (v := .ty "bool") (by rfl) T.mbool (by decide +kernel) rfl) pa_nil))) (nomark _)) (pw_or1 (pt_cmpR op_ne (pe_callB call_isi (by rfl) T.misinstance (by decide +kernel) (pa_cons (pv 0) (pa_cons (pe_bltn (v := .ty "int") (by rfl) T.mint (by decide +kernel) rfl) pa_nil))) (pe_callB call_isi (by rfl) T.misinstance (by decide +kernel) (pa_cons (pv 1) (pa_cons (pe_bltn (v := .ty "int") (by rfl) T.mint (by decide +kernel) rfl) pa_nil))) (nomark _)))))
  (pss_one (ps_ret pe_bl))
  pss_nil)
 (pss_one (ps_ret (pe_and (pe_cmpR op_eq (pe_callB call_isi (by rfl) T.misinstance (by decide +kernel) (pa_cons (pv 0) (pa_cons (pe_bltn (v := .ty "str") (by rfl) T.mstr (by decide +kernel) rfl) pa_nil))) (pe_callB call_isi (by rfl) T.misinstance (by decide +kernel) (pa_cons (pv 1) (pa_cons (pe_bltn (v := .ty "str") (by rfl) T.mstr (by decide +kernel) rfl) pa_nil))) (nomark _)) (pe_one (pe_cmpR op_eq (pv 0) (pv 1) (nomark _))))))))), ?_⟩
  have kI : ∀ (t c : String) (r : Bool), kitB t c = some r → PySem.W.kitOne K (.type t) (.type c) = some r := fun t c r h => kit_ty h
  have split : (v = w ∧ flatV v = true) ∨ ∃ (m : Nat) (a b : Addr) (vs ws : List V), n = m + 1 ∧ v = .ref a ∧ w = .ref b ∧ ((H a = some (.tup vs) ∧ H b = some (.tup ws)) ∨ (H a = some (.lst vs) ∧ H b = some (.lst ws))) ∧ vs.length = ws.length ∧ vs.length < 100000 ∧
      ∀ (i : Nat) x y, vs[i]? = some x → ws[i]? = some y → Eq2 H m x y := by
    cases n with
    | zero => exact .inl hE
    | succ m =>
      rcases hE with h | ⟨a, b, vs, ws, h⟩
      · exact .inl h
      · exact .inr ⟨m, a, b, vs, ws, rfl, h⟩
  rcases split with ⟨rfl, hf⟩ | ⟨m, a, b, vs, ws, rfl, rfl, rfl, hab, hl, hz, hi⟩
  · by_cases hn : v = .non
    · subst hn
      refine ⟨_, rfl, (by show 2 ≤ sizeLine; decide), fun p np => ?_⟩
      refine ⟨.non, p, [.ty "list", .ty "tuple"], .type "NoneType", [.type "list", .type "tuple"], false, rfl, upd_same, .cons (.ty _) (.cons (.ty _) .nil), .base .non,
        kitAny_cons (kI "NoneType" "list" false (by decide +kernel)) (fun _ => kitAny_cons (kI "NoneType" "tuple" false (by decide +kernel)) (fun _ => rfl) (fun z => nomatch z)) (fun z => nomatch z), false, rfl, iteF ?_⟩
      refine ⟨_, rfl, rfl, _, rfl, iteT ?_⟩
      exact ⟨_, rfl, rfl, q _ (same_new np)⟩
    · obtain ⟨t, b1, b2, b3, ty, k1, k2, k3, k4, k5, hs⟩ := plain_of (K := K) hf hn
      refine ⟨_, rfl, (by show 2 ≤ sizeLine; decide), fun p np => ?_⟩
      refine ⟨v, p, [.ty "list", .ty "tuple"], .type t, [.type "list", .type "tuple"], false, rfl, upd_same, .cons (.ty _) (.cons (.ty _) .nil), ty _,
        kitAny_cons (kI t "list" false k1) (fun _ => kitAny_cons (kI t "tuple" false k2) (fun _ => rfl) (fun z => nomatch z)) (fun z => nomatch z), false, rfl, iteF ?_⟩
      have dn : ¬ decide (v = V.non) = true := fun z => hn (of_decide_eq_true z)
      have same2 : ∀ b : Bool, ¬ (!decide (V.bl b = V.bl b)) = true := fun b => by rw [decide_eq_true rfl]; exact Bool.false_ne_true
      refine ⟨_, rfl, rfl, _, rfl, ite2 (fun z => absurd z dn) (fun _ => ?_)⟩
      refine ⟨_, rfl, v, .ty "bool", .type t, _, b1, rfl, .ty _, ty _, kI t "bool" b1 k3, _, rfl, v, .ty "bool", .type t, _, b1, rfl, .ty _, ty _, kI t "bool" b1 k3, rfl, _, rfl, ite2 (fun z => absurd z (same2 b1)) (fun _ => ?_)⟩
      refine ⟨_, rfl, v, .ty "int", .type t, _, b2, rfl, .ty _, ty _, kI t "int" b2 k4, _, rfl, v, .ty "int", .type t, _, b2, rfl, .ty _, ty _, kI t "int" b2 k4, rfl, _, rfl, ite2 (fun z => absurd z (same2 b2)) (fun _ => ?_)⟩
      refine ⟨_, rfl, v, .ty "str", .type t, _, b3, rfl, .ty _, ty _, kI t "str" b3 k5, _, rfl, v, .ty "str", .type t, _, b3, rfl, .ty _, ty _, kI t "str" b3 k5, rfl, _, rfl, ite2 (fun _ => ?_) (fun z => absurd (decide_eq_true rfl) z)⟩
      refine ⟨_, rfl, _, rfl, hs, ?_⟩
      rw [decide_eq_true rfl]
      exact q _ (same_new np)
  · rcases hab with ⟨ha, hb⟩ | ⟨ha, hb⟩
    · -- two tuples
      refine ⟨_, rfl, (by show 2 ≤ sizeLine; decide), fun p np => ?_⟩
      have s1 : Same H (upd H p (.tup [.ty "list", .ty "tuple"])) := same_new np
      have ka : PySem.W.kitAny K (.type "tuple") [.type "list", .type "tuple"] = some true := kitAny_cons (kI "tuple" "list" false (by decide +kernel)) (fun _ => kitAny_cons (kI "tuple" "tuple" true (by decide +kernel)) (fun z => nomatch z) (fun _ => rfl)) (fun _ => rfl)
      refine ⟨.ref b, p, [.ty "list", .ty "tuple"], .type "tuple", [.type "list", .type "tuple"], true, rfl, upd_same, .cons (.ty _) (.cons (.ty _) .nil), .base (.tup (s1 _ _ hb)), ka, true, rfl, iteT ?_⟩
      refine ⟨_, rfl, .ref a, .ty "list", .type "tuple", _, false, rfl, .ty _, .base (.tup (s1 _ _ ha)), kI "tuple" "list" false (by decide +kernel), _, rfl, .ref b, .ty "list", .type "tuple", _, false, rfl, .ty _, .base (.tup (s1 _ _ hb)), kI "tuple" "list" false (by decide +kernel), rfl, _, rfl, iteF ?_⟩
      refine ⟨_, rfl, (by show 2 ≤ sizeLine; decide), fun p2 np2 => ?_⟩
      have s2 := s1.trans (same_new (o := .tup [.ty "list", .ty "tuple"]) np2)
      refine ⟨.ref a, p2, [.ty "list", .ty "tuple"], .type "tuple", [.type "list", .type "tuple"], true, rfl, upd_same, .cons (.ty _) (.cons (.ty _) .nil), .base (.tup (s2 _ _ ha)), ka, true, rfl, iteF ?_⟩
      refine ⟨_, rfl, .ref a, vs.length, rfl, .inr ⟨_, SqT.of (s2 _ _ ha), rfl⟩, _, rfl, .ref b, ws.length, rfl, .inr ⟨_, SqT.of (s2 _ _ hb), rfl⟩, rfl, _, rfl, ite2 (fun _ => ?_) (fun z => absurd (decide_eq_true (by rw [hl])) z)⟩
      refine ⟨_, rfl, _, rfl, a, b, vs, ws, rfl, .inr ⟨SqT.of (s2 _ _ ha), SqT.of (s2 _ _ hb), fun Dn nD => ?_⟩⟩
      have nDH : H Dn = none := s2.free nD
      refine lc_it (walk_zipT (K := K) (xs := vs) (ys := ws) (n := vs.length) (by omega)) (fun i H' => Same H H' ∧ H' Dn = some (.lst ((List.replicate i true).map V.bl))) ⟨s2.trans (same_new nD), upd_same⟩ (fun i H' _ hP => ⟨SqT.of (hP.1 _ _ ha), SqT.of (hP.1 _ _ hb)⟩) (fun i x H' H'' hlt hP hY => ?_) (fun H' hP => ?_)
      · obtain ⟨sm, hD⟩ := hP
        obtain ⟨Tn, x1, x2, rfl, nT, rfl, g1, g2⟩ := hY
        have sT : Same H' (upd H' Tn (.tup [x1, x2])) := same_new nT
        refine ⟨Tn, [x1, x2], rfl, SqT.of upd_same, rfl, x1, [x2], rfl, x2, [], rfl, rfl, rfl, yes_go ?_⟩
        refine ⟨_, rfl, _, rfl, x1, x2, rfl, Eq2.same (sm.trans sT) (hi i x1 x2 g1 g2), fun H3 s3 => ?_⟩
        refine ⟨_, s3 _ _ (sT _ _ hD), ?_, Same.upd_new ((sm.trans sT).trans s3) nDH, ?_⟩
        · rw [List.length_map, List.length_replicate]
          exact szl (by omega)
        · rw [upd_same, List.replicate_succ', List.map_append]
          rfl
      · obtain ⟨sm, hD⟩ := hP
        refine ⟨Dn, List.replicate vs.length true, rfl, SqL.of hD, ?_⟩
        rw [all_trues]
        exact q _ sm
    · -- two lists
      refine ⟨_, rfl, (by show 2 ≤ sizeLine; decide), fun p np => ?_⟩
      have s1 : Same H (upd H p (.tup [.ty "list", .ty "tuple"])) := same_new np
      have ka : PySem.W.kitAny K (.type "list") [.type "list", .type "tuple"] = some true := kitAny_cons (kI "list" "list" true (by decide +kernel)) (fun z => nomatch z) (fun _ => rfl)
      refine ⟨.ref b, p, [.ty "list", .ty "tuple"], .type "list", [.type "list", .type "tuple"], true, rfl, upd_same, .cons (.ty _) (.cons (.ty _) .nil), .base (.lst (s1 _ _ hb)), ka, true, rfl, iteT ?_⟩
      refine ⟨_, rfl, .ref a, .ty "list", .type "list", _, true, rfl, .ty _, .base (.lst (s1 _ _ ha)), kI "list" "list" true (by decide +kernel), _, rfl, .ref b, .ty "list", .type "list", _, true, rfl, .ty _, .base (.lst (s1 _ _ hb)), kI "list" "list" true (by decide +kernel), rfl, _, rfl, iteF ?_⟩
      refine ⟨_, rfl, (by show 2 ≤ sizeLine; decide), fun p2 np2 => ?_⟩
      have s2 := s1.trans (same_new (o := .tup [.ty "list", .ty "tuple"]) np2)
      refine ⟨.ref a, p2, [.ty "list", .ty "tuple"], .type "list", [.type "list", .type "tuple"], true, rfl, upd_same, .cons (.ty _) (.cons (.ty _) .nil), .base (.lst (s2 _ _ ha)), ka, true, rfl, iteF ?_⟩
      refine ⟨_, rfl, .ref a, vs.length, rfl, .inl ⟨_, SqL.of (s2 _ _ ha), rfl⟩, _, rfl, .ref b, ws.length, rfl, .inl ⟨_, SqL.of (s2 _ _ hb), rfl⟩, rfl, _, rfl, ite2 (fun _ => ?_) (fun z => absurd (decide_eq_true (by rw [hl])) z)⟩
      refine ⟨_, rfl, _, rfl, a, b, vs, ws, rfl, .inl ⟨SqL.of (s2 _ _ ha), SqL.of (s2 _ _ hb), fun Dn nD => ?_⟩⟩
      have nDH : H Dn = none := s2.free nD
      refine lc_it (walk_zip (K := K) (xs := vs) (ys := ws) (n := vs.length) (by omega)) (fun i H' => Same H H' ∧ H' Dn = some (.lst ((List.replicate i true).map V.bl))) ⟨s2.trans (same_new nD), upd_same⟩ (fun i H' _ hP => ⟨SqL.of (hP.1 _ _ ha), SqL.of (hP.1 _ _ hb)⟩) (fun i x H' H'' hlt hP hY => ?_) (fun H' hP => ?_)
      · obtain ⟨sm, hD⟩ := hP
        obtain ⟨Tn, x1, x2, rfl, nT, rfl, g1, g2⟩ := hY
        have sT : Same H' (upd H' Tn (.tup [x1, x2])) := same_new nT
        refine ⟨Tn, [x1, x2], rfl, SqT.of upd_same, rfl, x1, [x2], rfl, x2, [], rfl, rfl, rfl, yes_go ?_⟩
        refine ⟨_, rfl, _, rfl, x1, x2, rfl, Eq2.same (sm.trans sT) (hi i x1 x2 g1 g2), fun H3 s3 => ?_⟩
        refine ⟨_, s3 _ _ (sT _ _ hD), ?_, Same.upd_new ((sm.trans sT).trans s3) nDH, ?_⟩
        · rw [List.length_map, List.length_replicate]
          exact szl (by omega)
        · rw [upd_same, List.replicate_succ', List.map_append]
          rfl
      · obtain ⟨sm, hD⟩ := hP
        refine ⟨Dn, List.replicate vs.length true, rfl, SqL.of hD, ?_⟩
        rw [all_trues]
        exact q _ sm
theorem ok_same (T : Tops w K mg) : ∀ n : Nat, FnOk P w K mg base CX0 (n + 1) T.fl_same T.dl_same ["_law_found", "_law_due"] (spSame n)
  | 0 => ok_same1 T 0 fn_none
  | n + 1 => ok_same1 T (n + 1) (ok_same T n)
end
end K05

set_option Elab.async false
set_option linter.all false
set_option maxRecDepth 100000
set_option maxHeartbeats 4000000
namespace OG
open PySem PySem.Spec PyProof.Rows L2
/-! ### how deep what is read lies -/
def Low (n : Nat) (b : List Thing) : Prop := depL (encs b) ≤ n ∧ fitL (encs b) ∧ b.length < 1000
def LowT (n : Nat) (t : Thing) : Prop := depD (enc t) ≤ n ∧ fitD (enc t)
theorem low_nil (n : Nat) : Low n [] := ⟨Nat.zero_le _, trivial, by show 0 < 1000; decide⟩
theorem low_snoc {n : Nat} {t : Thing} : ∀ {b : List Thing}, (depL (encs b) ≤ n ∧ fitL (encs b)) → LowT n t → depL (encs (b ++ [t])) ≤ n ∧ fitL (encs (b ++ [t]))
  | [], _, ht => ⟨Nat.max_le.mpr ⟨ht.1, Nat.zero_le _⟩, ht.2, trivial⟩
  | x :: r, h, ht => by
    have h1 := Nat.max_le.mp h.1
    have ih := low_snoc (b := r) ⟨h1.2, h.2.2⟩ ht
    exact ⟨Nat.max_le.mpr ⟨h1.1, ih.1⟩, h.2.1, ih.2⟩
section
variable {sg : Sgs}
def BrLow (n : Nat) (br : Br) : Prop := ∀ p th b p' th', br p th = .ok b p' th' → Low n b
theorem dep_tup (b : List Thing) : depD (.tup (encs b)) = 1 + depL (encs b) := rfl
theorem pThing_low {n : Nat} {br : Br} (hb : BrLow n br) {t : Thing} {p th p' th' : Nat} (h : pThing sg br p th = .ok t p' th') : LowT (n + 2) t := by
  unfold pThing at h
  split at h
  · have key : ∀ {q : Nat}, pRest sg br (tok sg p) q (th + 1) = .ok t p' th' → LowT (n + 2) t := fun {q} h => by
      unfold pRest at h
      split at h
      · obtain ⟨k, a1, a2, h1, h2⟩ := bind_ok h
        cases h2
        exact ⟨by show 1 ≤ _; omega, by show 2 < 100000; decide, trivial, trivial, trivial⟩
      · split at h
        · obtain ⟨x, a1, a2, h1, h2⟩ := bind_ok h
          obtain ⟨_, b1, b2, h3, h4⟩ := bind_ok h2
          obtain ⟨_, c1, c2, h5, h6⟩ := bind_ok h4
          cases h6
          exact ⟨by show 2 ≤ _; omega, by show 3 < 100000; decide, trivial, trivial, ⟨by show 2 < 100000; decide, trivial, trivial, trivial⟩, trivial⟩
        · split at h
          · obtain ⟨x, a1, a2, h1, h2⟩ := bind_ok h
            obtain ⟨_, b1, b2, h3, h4⟩ := bind_ok h2
            obtain ⟨_, c1, c2, h5, h6⟩ := bind_ok h4
            cases h6
            exact ⟨by show 1 ≤ _; omega, by show 3 < 100000; decide, trivial, trivial, trivial, trivial⟩
          · split at h
            · obtain ⟨x, a1, a2, h1, h2⟩ := bind_ok h
              obtain ⟨_, b1, b2, h3, h4⟩ := bind_ok h2
              obtain ⟨e, c1, c2, h5, h6⟩ := bind_ok h4
              obtain ⟨_, d1, d2, h7, h8⟩ := bind_ok h6
              obtain ⟨e', e1, e2, h9, h10⟩ := bind_ok h8
              obtain ⟨b, f1, f2, h11, h12⟩ := bind_ok h10
              cases h12
              obtain ⟨k1, k2, k3⟩ := hb _ _ _ _ _ h11
              refine ⟨?_, by show 5 < 100000; decide, trivial, trivial, ⟨by show 2 < 100000; decide, trivial, trivial, trivial⟩, ⟨by show 2 < 100000; decide, trivial, trivial, trivial⟩, ⟨by rw [encs_length]; omega, k2⟩, trivial⟩
              show 1 + max 0 (max 0 (max 1 (max 1 (max (1 + depL (encs b)) 0)))) ≤ n + 2
              omega
            · split at h
              · obtain ⟨x, a1, a2, h1, h2⟩ := bind_ok h
                obtain ⟨_, b1, b2, h3, h4⟩ := bind_ok h2
                obtain ⟨_, c1, c2, h5, h6⟩ := bind_ok h4
                obtain ⟨b, d1, d2, h7, h8⟩ := bind_ok h6
                obtain ⟨b', e1, e2, h9, h10⟩ := bind_ok h8
                cases h10
                obtain ⟨k1, k2, k3⟩ := hb _ _ _ _ _ h7
                have hl : Low n b' := by
                  unfold pElse at h9
                  split at h9
                  · exact hb _ _ _ _ _ h9
                  · cases h9
                    exact low_nil n
                obtain ⟨l1, l2, l3⟩ := hl
                refine ⟨?_, by show 5 < 100000; decide, trivial, ⟨by show 2 < 100000; decide, trivial, trivial, trivial⟩, ⟨by show 2 < 100000; decide, trivial, trivial, trivial⟩, ⟨by rw [encs_length]; omega, k2⟩, ⟨by rw [encs_length]; omega, l2⟩, trivial⟩
                show 1 + max 0 (max 1 (max 1 (max (1 + depL (encs b)) (max (1 + depL (encs b')) 0)))) ≤ n + 2
                omega
              · obtain ⟨b, a1, a2, h1, h2⟩ := bind_ok h
                cases h2
                obtain ⟨k1, k2, k3⟩ := hb _ _ _ _ _ h1
                refine ⟨?_, by show 2 < 100000; decide, trivial, ⟨by rw [encs_length]; omega, k2⟩, trivial⟩
                show 1 + max 0 (max (1 + depL (encs b)) 0) ≤ n + 2
                omega
    exact key h
  · cases h
theorem pLoop_low {n : Nat} {thing : Nat → Nat → PR Thing} (ht : ∀ p th t p' th', thing p th = .ok t p' th' → LowT n t) : ∀ (f : Nat) (acc : List Thing) (p th : Nat) (b : List Thing) (p' th' : Nat), depL (encs acc) ≤ n ∧ fitL (encs acc) → acc.length + f < 1000 → pLoop sg thing f acc p th = .ok b p' th' → Low n b
  | 0, acc, p, th, b, p', th', ha, hl, h => by cases h
  | f + 1, acc, p, th, b, p', th', ha, hl, h => by
    rw [pLoop] at h
    split at h
    · obtain ⟨t, a1, a2, h1, h2⟩ := bind_ok h
      exact pLoop_low ht f _ _ _ _ _ _ (low_snoc ha (ht _ _ _ _ _ h1)) (by rw [List.length_append]; show acc.length + 1 + f < 1000; omega) h2
    · cases h
      exact ⟨ha.1, ha.2, by omega⟩
theorem pBody_low {n : Nat} {br : Br} (hb : BrLow n br) {b : List Thing} {p th p' th' : Nat} (h : pBody sg (pThing sg br) p th = .ok b p' th') : Low (n + 2) b := by
  obtain ⟨t, d1, d2, h7, h8⟩ := bind_ok h
  exact pLoop_low (fun p th t p' th' h => pThing_low hb h) _ _ _ _ _ _ _ (low_snoc (b := []) ⟨Nat.zero_le _, trivial⟩ (pThing_low hb h7)) (by show 1 + 13 < 1000; decide) h8
theorem pBracket_low : ∀ n : Nat, BrLow (2 * n) (pBracket sg n)
  | 0 => fun p th b p' th' h => by cases h
  | n + 1 => fun p th b p' th' h => by
    have h' : ((pWord sg "(" p th).bind fun _ p th => (pBody sg (pThing sg (pBracket sg n)) p th).bind fun b p th => (pWord sg ")" p th).bind fun _ p th => .ok b p th) = .ok b p' th' := h
    obtain ⟨_, a1, a2, h1, h2⟩ := bind_ok h'
    obtain ⟨_, b1, b2, h3, h4⟩ := bind_ok h2
    obtain ⟨_, c1, c2, h5, h6⟩ := bind_ok h4
    cases h6
    exact pBody_low (pBracket_low n) h3
end
theorem readAll_fit (z : Str) : depD (encRR (readAll z)) ≤ 20 ∧ fitD (encRR (readAll z)) := by
  unfold readAll
  split
  · exact ⟨by show 1 ≤ 20; decide, by show 2 < 100000; decide, trivial, trivial, trivial⟩
  · split
    · rename_i s _ ts p th h
      obtain ⟨b, b1, b2, h3, h4⟩ := bind_ok h
      split at h4
      · cases h4
        obtain ⟨k1, k2, k3⟩ := pBody_low (pBracket_low 4) h3
        refine ⟨?_, by show 2 < 100000; decide, trivial, ⟨by rw [encs_length]; omega, k2⟩, trivial⟩
        show 1 + max 0 (max (1 + depL (encs ts)) 0) ≤ 20
        omega
      · cases h4
    · exact ⟨by show 1 ≤ 20; decide, by show 2 < 100000; decide, trivial, trivial, trivial⟩
end OG

set_option Elab.async false
set_option linter.all false
set_option maxRecDepth 100000
set_option maxHeartbeats 4000000
namespace K05
open PySem PySem.Spec PyProof.Rows L2 OG
open C8 (pss_cut pe_gc)
open OGX

section
variable {P : Program} {w : World} {K : PySem.W.Frag} {mg : Str → Option Value} {base : Heap}
theorem ok_l_end_text (T : Tops w K mg) : FnOk P w K mg base CX0 1 T.fl_end_text T.dl_end_text ["_law_end"] spEndText := by
  refine T.Fl_end_text.ok (k := 0) scl_end_text (fun vs H Q E h => ?_) (fun cdv A outer s H vs Q E hr h => ?_)
  · obtain ⟨v, e, rfl, _⟩ := h
    rfl
  obtain ⟨v, e, rfl, hR, hl, h1, h2, q⟩ := h
  refine ⟨_, (pss_cons (ps_if (pt_cmpR op_eq (pe_ix ix_tup (pv 0) pe_int (fun _ _ => rfl)) pe_str (nomark _))
  (pss_one (ps_ret (pe_callTy call_str_int (by rfl) T.mstr (by decide +kernel) (pa_cons (pe_ix ix_tup (pv 0) pe_int (fun _ _ => rfl)) pa_nil))))
  pss_nil)
 (pss_cons (ps_if (pt_cmpR op_eq (pe_ix ix_tup (pv 0) pe_int (fun _ _ => rfl)) pe_int (nomark _))
  (pss_one (ps_ret (pe_ix ix_tup (pv 0) pe_int (fun _ _ => rfl))))
  pss_nil)
 (pss_one (ps_ret (pe_op op_add_str (pe_op op_add_str (pe_ix ix_tup (pv 0) pe_int (fun _ _ => rfl)) (pe_ix ix_list (pe_lst (pa_cons pe_str (pa_cons pe_str pa_nil))) (pe_callTy call_int1 (by rfl) T.mint (by decide +kernel) (pa_cons (pe_cmpR op_lt (pe_ix ix_tup (pv 0) pe_int (fun _ _ => rfl)) pe_int (nomark _)) pa_nil)) (fun _ _ => rfl))) (pe_callTy call_str_int (by rfl) T.mstr (by decide +kernel) (pa_cons (pe_callB call_abs (by rfl) T.mabs (by decide +kernel) (pa_cons (pe_ix ix_tup (pv 0) pe_int (fun _ _ => rfl)) pa_nil)) pa_nil))))))), ?_⟩
  obtain ⟨a, v1, v2, rfl, ha, rfl, rfl⟩ := rp_t2 hR
  have q0 := q H (Same.refl H)
  have n1 := numL_len h1 h2
  have n2 := numL_len (i := -e.2) (by omega) (by omega)
  refine ⟨_, rfl, a, _, 0, _, rfl, rfl, SqT.of ha, rfl, rfl, _, rfl, ite2 (fun c1 => ?_) (fun c1 => ?_)⟩
  · have e1 : e.1 = "" := V.str.inj (of_decide_eq_true c1)
    refine ⟨_, rfl, a, _, 1, _, rfl, rfl, SqT.of ha, rfl, e.2, rfl, int_log h1 h2, str_to (Q := Q) q0 ?_⟩
    unfold endL
    rw [if_pos e1]
    rfl
  have e1 : ¬ e.1 = "" := fun z => c1 (decide_eq_true (by rw [z]))
  refine ⟨_, rfl, a, _, 1, _, rfl, rfl, SqT.of ha, rfl, rfl, _, rfl, ite2 (fun c2 => ?_) (fun c2 => ?_)⟩
  · have e2 : e.2 = 0 := V.int.inj (of_decide_eq_true c2)
    refine ⟨_, rfl, a, _, 0, _, rfl, rfl, SqT.of ha, rfl, str_to (Q := Q) q0 ?_⟩
    unfold endL
    rw [if_neg e1, if_pos e2]
  have e2 : ¬ e.2 = 0 := fun z => c2 (decide_eq_true (by rw [z]))
  refine ⟨_, rfl, a, _, 0, _, rfl, rfl, SqT.of ha, rfl, (by show 2 ≤ sizeLine; decide), fun l nl => ?_⟩
  have s1 : Same H (upd H l (.lst [.str " + ", .str " - "])) := same_new nl
  refine ⟨_, rfl, a, _, 1, _, rfl, rfl, SqT.of (s1 _ _ ha), rfl, e.2, 0, rfl, rfl, .inr ⟨_, rfl, ?_⟩⟩
  by_cases c3 : e.2 < 0
  · rw [decide_eq_true c3]
    refine ⟨l, _, _, .str " - ", rfl, rfl, SqL.of upd_same, rfl, e.1, _, rfl, rfl, szc (by rw [l_minus]; omega), _, rfl, a, _, 1, _, rfl, rfl, SqT.of (s1 _ _ ha), rfl, e.2, rfl, _, rfl, ?_⟩
    rw [if_pos c3]
    refine ⟨int_log (by omega) (by omega), _, _, rfl, rfl, szc (by rw [len_app, l_minus]; omega), str_to (Q := Q) (q _ s1) ?_⟩
    unfold endL
    rw [if_neg e1, if_neg e2, if_neg (by omega)]
    simp only [tl_app, tl_S]
    rfl
  · rw [decide_eq_false c3]
    refine ⟨l, _, _, .str " + ", rfl, rfl, SqL.of upd_same, rfl, e.1, _, rfl, rfl, szc (by rw [l_plus]; omega), _, rfl, a, _, 1, _, rfl, rfl, SqT.of (s1 _ _ ha), rfl, e.2, rfl, _, rfl, ?_⟩
    rw [if_neg c3]
    refine ⟨int_log (by omega) (by omega), _, _, rfl, rfl, szc (by rw [len_app, l_plus]; omega), str_to (Q := Q) (q _ s1) ?_⟩
    unfold endL
    rw [if_neg e1, if_neg e2, if_pos (by omega)]
    simp only [tl_app, tl_S]
    rfl
theorem no_word {x y : Str} (h : decide (x = y) = false) : ¬ decide (V.str x = V.str y) = true := fun z => by
  have e := V.str.inj (of_decide_eq_true z)
  rw [decide_eq_true e] at h
  cases h
/-- what written promises to a thing with n brackets left -/
def prevW : Nat → Sp
  | 0 => fun _ _ _ _ => False
  | m + 1 => spPlanText m
theorem ok_l_thing_text (T : Tops w K mg) (n : Nat) (hn20 : n ≤ 20) (Gl_written : FnOk P w K mg base CX0 (2 * n + 1) T.fl_written T.dl_written ["_law_plan"] (prevW n)) : FnOk P w K mg base CX0 (2 * n + 2) T.fl_thing_text T.dl_thing_text ["_law_thing"] (spThingText n) := by
  have Gl_end_text : FnOk P w K mg base CX0 1 T.fl_end_text T.dl_end_text ["_law_end"] spEndText := ok_l_end_text T
  refine T.Fl_thing_text.ok (k := 2 * n + 1) scl_thing_text (fun vs H Q E h => ?_) (fun cdv A outer s H vs Q E hr h => ?_)
  · obtain ⟨v, t, C, A', sc, rfl, _⟩ := h
    rfl
  obtain ⟨v, t, C, A', sc, rfl, hR, hT, hs, hc, q⟩ := h
  refine ⟨_, (pss_cons (ps_set (i := 1) scl_thing_text.nd rfl (Or.inl rfl) (pe_ix ix_tup (pv 0) pe_int (fun _ _ => rfl)))
 (pss_cons (ps_if (pt_cmpR op_eq (pv 1) pe_str (nomark _))
  (pss_one (ps_ret (pe_op op_add_str pe_str (pe_callTy call_str_int (by rfl) T.mstr (by decide +kernel) (pa_cons (pe_ix ix_tup (pv 0) pe_int (fun _ _ => rfl)) pa_nil)))))
  pss_nil)
 (pss_cons (ps_if (pt_cmpR op_eq (pv 1) pe_str (nomark _))
  (pss_one (ps_ret (pe_op op_add_str (pe_op op_add_str pe_str (pe_call Gl_written (hr.mono (by omega)) (by rfl) T.gl_written T.Fl_written.kp T.bl_written .nil pass0 (pa_cons (pe_ix ix_tup (pv 0) pe_int (fun _ _ => rfl)) pa_nil))) pe_str)))
  pss_nil)
 (pss_cons (ps_if (pt_cmpR op_eq (pv 1) pe_str (nomark _))
  (pss_one (ps_ret (pe_op op_add_str (pe_op op_add_str (pe_op op_add_str pe_str (pe_ix ix_tup (pv 0) pe_int (fun _ _ => rfl))) pe_str) (pe_call Gl_end_text (hr.mono (by omega)) (by rfl) T.gl_end_text T.Fl_end_text.kp T.bl_end_text .nil pass0 (pa_cons (pe_ix ix_tup (pv 0) pe_int (fun _ _ => rfl)) pa_nil)))))
  pss_nil)
 (pss_cons (ps_if (pt_cmpR op_eq (pv 1) pe_str (nomark _))
  (pss_one (ps_ret (pe_op op_add_str (pe_op op_add_str (pe_op op_add_str pe_str (pe_callTy call_str_int (by rfl) T.mstr (by decide +kernel) (pa_cons (pe_ix ix_tup (pv 0) pe_int (fun _ _ => rfl)) pa_nil))) pe_str) (pe_ix ix_tup (pv 0) pe_int (fun _ _ => rfl)))))
  pss_nil)
 (pss_cons (ps_if (pt_cmpR op_eq (pv 1) pe_str (nomark _))
  (pss_cons (ps_set (i := 3) scl_thing_text.nd rfl (Or.inl rfl) (pe_op op_add_str (pe_op op_add_str (pe_op op_add_str (pe_op op_add_str (pe_op op_add_str pe_str (pe_ix ix_tup (pv 0) pe_int (fun _ _ => rfl))) pe_str) (pe_call Gl_end_text (hr.mono (by omega)) (by rfl) T.gl_end_text T.Fl_end_text.kp T.bl_end_text .nil pass0 (pa_cons (pe_ix ix_tup (pv 0) pe_int (fun _ _ => rfl)) pa_nil))) pe_str) (pe_call Gl_end_text (hr.mono (by omega)) (by rfl) T.gl_end_text T.Fl_end_text.kp T.bl_end_text .nil pass0 (pa_cons (pe_ix ix_tup (pv 0) pe_int (fun _ _ => rfl)) pa_nil))))
 (pss_one (ps_ret (pe_op op_add_str (pe_op op_add_str (pe_op op_add_str (pv 3) pe_str) (pe_call Gl_written (hr.mono (by omega)) (by rfl) T.gl_written T.Fl_written.kp T.bl_written .nil pass0 (pa_cons (pe_ix ix_tup (pv 0) pe_int (fun _ _ => rfl)) pa_nil))) pe_str))))
  pss_nil)
 (pss_cons (ps_set (i := 2) scl_thing_text.nd rfl (Or.inl rfl) (pe_op op_add_str (pe_op op_add_str (pe_op op_add_str (pe_op op_add_str (pe_op op_add_str (pe_op op_add_str pe_str (pe_call Gl_end_text (hr.mono (by omega)) (by rfl) T.gl_end_text T.Fl_end_text.kp T.bl_end_text .nil pass0 (pa_cons (pe_ix ix_tup (pv 0) pe_int (fun _ _ => rfl)) pa_nil))) pe_str) (pe_call Gl_end_text (hr.mono (by omega)) (by rfl) T.gl_end_text T.Fl_end_text.kp T.bl_end_text .nil pass0 (pa_cons (pe_ix ix_tup (pv 0) pe_int (fun _ _ => rfl)) pa_nil))) pe_str) (pe_call Gl_written (hr.mono (by omega)) (by rfl) T.gl_written T.Fl_written.kp T.bl_written .nil pass0 (pa_cons (pe_ix ix_tup (pv 0) pe_int (fun _ _ => rfl)) pa_nil))) pe_str))
 (pss_one (ps_ret (pe_ifExp (pt_cmpR (op_eqD hr.units) (pe_ix ix_tup (pv 0) pe_int (fun _ _ => rfl)) (pe_tup pa_nil) (nomark _)) (pv 2) (pe_op op_add_str (pe_op op_add_str (pe_op op_add_str (pv 2) pe_str) (pe_call Gl_written (hr.mono (by omega)) (by rfl) T.gl_written T.Fl_written.kp T.bl_written .nil pass0 (pa_cons (pe_ix ix_tup (pv 0) pe_int (fun _ _ => rfl)) pa_nil))) pe_str))))))))))), ?_⟩
  cases t with
  | step k =>
    obtain ⟨a, v1, v2, rfl, ha, rfl, rfl⟩ := rp_t2 hR
    have n1 := numL_len (i := k) (by have := hT.1; omega) hT.2
    refine ⟨_, rfl, a, _, 0, _, rfl, rfl, SqT.of ha, rfl, ?_⟩
    refine ⟨_, rfl, rfl, _, rfl, ite2 (fun _ => ?_) (fun z => absurd (by decide +kernel) z)⟩
    refine ⟨_, rfl, a, _, 1, _, rfl, rfl, SqT.of ha, rfl, k, rfl, int_log (by have := hT.1; omega) hT.2, _, _, rfl, rfl, szc (by rw [l_step]; omega), str_to (Q := Q) (q H (Same.refl H)) ?_⟩
    simp only [tl_app, tl_S]
    rfl
  | twice b =>
    obtain ⟨a, v1, v2, rfl, ha, rfl, h2⟩ := rp_t2 hR
    obtain ⟨hb, m, rfl, hB⟩ := hT
    have hcb : cntB b ≤ 1000 := by
      have : 1 + cntB b ≤ 1000 := hc
      omega
    have lb := body_len hB hs hcb
    refine ⟨_, rfl, a, _, 0, _, rfl, rfl, SqT.of ha, rfl, ?_⟩
    refine ⟨_, rfl, rfl, _, rfl, ite2 (fun z => absurd z (no_word (by decide +kernel))) (fun _ => ?_)⟩
    refine ⟨_, rfl, rfl, _, rfl, ite2 (fun _ => ?_) (fun z => absurd (by decide +kernel) z)⟩
    refine ⟨_, rfl, a, _, 1, _, rfl, rfl, SqT.of ha, rfl, v2, b, C, A', sc, rfl, h2, hB, hs, hcb, fun H1 s1 => ?_⟩
    refine ⟨_, _, rfl, rfl, szc (by rw [l_double, len_S]; omega), _, _, rfl, rfl, szc (by simp only [len_app, l_double, len_S, l_shut]; omega), str_to (Q := Q) (q H1 s1) ?_⟩
    simp only [tl_app, tl_S]
    rfl
  | call x e =>
    obtain ⟨a, v1, v2, v3, rfl, ha, rfl, rfl, h3⟩ := rp_t3 hR
    obtain ⟨hx, _, he⟩ := hT
    have lx := name_len hx
    obtain ⟨z1, z2, z3, z4⟩ := end_small hs he
    refine ⟨_, rfl, a, _, 0, _, rfl, rfl, SqT.of ha, rfl, ?_⟩
    refine ⟨_, rfl, rfl, _, rfl, ite2 (fun z => absurd z (no_word (by decide +kernel))) (fun _ => ?_)⟩
    refine ⟨_, rfl, rfl, _, rfl, ite2 (fun z => absurd z (no_word (by decide +kernel))) (fun _ => ?_)⟩
    refine ⟨_, rfl, rfl, _, rfl, ite2 (fun _ => ?_) (fun z => absurd (by decide +kernel) z)⟩
    refine ⟨_, rfl, a, _, 1, _, rfl, rfl, SqT.of ha, rfl, _, x, rfl, rfl, szc (by rw [l_call]; omega), _, _, rfl, rfl, szc (by simp only [len_app, l_call, l_with]; omega), _, rfl, a, _, 2, _, rfl, rfl, SqT.of ha, rfl, v3, e, rfl, h3, by omega, z3, z4, fun H1 s1 => ?_⟩
    refine ⟨_, _, rfl, rfl, szc (by simp only [len_app, l_call, l_with, len_S]; omega), str_to (Q := Q) (q H1 s1) ?_⟩
    simp only [tl_app, tl_S]
    rfl
  | again k x =>
    obtain ⟨a, v1, v2, v3, rfl, ha, rfl, rfl, rfl⟩ := rp_t3 hR
    obtain ⟨_, k1, k9, hx⟩ := hT
    have n1 := numL_len (i := k) (by omega) (by omega)
    have lx : x.length ≤ 6 := by
      rcases hx with rfl | rfl | rfl
      · decide +kernel
      · decide +kernel
      · decide +kernel
    refine ⟨_, rfl, a, _, 0, _, rfl, rfl, SqT.of ha, rfl, ?_⟩
    refine ⟨_, rfl, rfl, _, rfl, ite2 (fun z => absurd z (no_word (by decide +kernel))) (fun _ => ?_)⟩
    refine ⟨_, rfl, rfl, _, rfl, ite2 (fun z => absurd z (no_word (by decide +kernel))) (fun _ => ?_)⟩
    refine ⟨_, rfl, rfl, _, rfl, ite2 (fun z => absurd z (no_word (by decide +kernel))) (fun _ => ?_)⟩
    refine ⟨_, rfl, rfl, _, rfl, ite2 (fun _ => ?_) (fun z => absurd (by decide +kernel) z)⟩
    refine ⟨_, rfl, a, _, 1, _, rfl, rfl, SqT.of ha, rfl, k, rfl, int_log (by omega) (by omega), _, _, rfl, rfl, szc (by rw [l_again]; omega), _, _, rfl, rfl, szc (by simp only [len_app, l_again, l_on]; omega), _, rfl, a, _, 2, _, rfl, rfl, SqT.of ha, rfl, _, x, rfl, rfl, szc (by simp only [len_app, l_again, l_on]; omega), str_to (Q := Q) (q H (Same.refl H)) ?_⟩
    simp only [tl_app, tl_S]
    rfl
  | loop x e f b =>
    obtain ⟨a, v1, v2, v3, v4, v5, rfl, ha, rfl, rfl, h3, h4, h5⟩ := rp_t5 hR
    obtain ⟨hx, hxn, he, hf, hb, m, rfl, hB⟩ := hT
    have hcb : cntB b ≤ 1000 := by
      have : 1 + cntB b ≤ 1000 := hc
      omega
    have hs2 := scOk_snoc hs hx
    have lb := body_len hB hs2 hcb
    have lx := name_len hx
    obtain ⟨z1, z2, z3, z4⟩ := end_small hs he
    obtain ⟨y1, y2, y3, y4⟩ := end_small hs hf
    refine ⟨_, rfl, a, _, 0, _, rfl, rfl, SqT.of ha, rfl, ?_⟩
    refine ⟨_, rfl, rfl, _, rfl, ite2 (fun z => absurd z (no_word (by decide +kernel))) (fun _ => ?_)⟩
    refine ⟨_, rfl, rfl, _, rfl, ite2 (fun z => absurd z (no_word (by decide +kernel))) (fun _ => ?_)⟩
    refine ⟨_, rfl, rfl, _, rfl, ite2 (fun z => absurd z (no_word (by decide +kernel))) (fun _ => ?_)⟩
    refine ⟨_, rfl, rfl, _, rfl, ite2 (fun z => absurd z (no_word (by decide +kernel))) (fun _ => ?_)⟩
    refine ⟨_, rfl, rfl, _, rfl, ite2 (fun _ => ?_) (fun z => absurd (by decide +kernel) z)⟩
    refine ⟨_, rfl, a, _, 1, _, rfl, rfl, SqT.of ha, rfl, _, x, rfl, rfl, szc (by rw [l_for]; omega), _, _, rfl, rfl, szc (by simp only [len_app, l_for, l_from]; omega), _, rfl, a, _, 2, _, rfl, rfl, SqT.of ha, rfl, v3, e, rfl, h3, by omega, z3, z4, fun H1 s1 => ?_⟩
    refine ⟨_, _, rfl, rfl, szc (by simp only [len_app, l_for, l_from, len_S]; omega), _, _, rfl, rfl, szc (by simp only [len_app, l_for, l_from, l_to, len_S]; omega), _, rfl, a, _, 3, _, rfl, rfl, SqT.of (s1 _ _ ha), rfl, v4, f, rfl, h4.to (Imm.same s1), by omega, y3, y4, fun H2 s2 => ?_⟩
    refine ⟨_, _, rfl, rfl, szc (by simp only [len_app, l_for, l_from, l_to, len_S]; omega), ?_⟩
    refine ⟨_, rfl, _, _, rfl, rfl, szc (by simp only [len_app, l_for, l_from, l_to, l_open, len_S]; omega), _, rfl, a, _, 4, _, rfl, rfl, SqT.of ((s1.trans s2) _ _ ha), rfl, v5, b, C, A', sc ++ [x], rfl, h5.to (Imm.same (s1.trans s2)), hB, hs2, hcb, fun H3 s3 => ?_⟩
    refine ⟨_, _, rfl, rfl, szc (by simp only [len_app, l_for, l_from, l_to, l_open, len_S]; omega), _, _, rfl, rfl, szc (by simp only [len_app, l_for, l_from, l_to, l_open, l_shut, len_S]; omega), str_to (Q := Q) (q H3 ((s1.trans s2).trans s3)) ?_⟩
    simp only [tl_app, tl_S]
    rfl
  | test e f b c =>
    obtain ⟨a, v1, v2, v3, v4, v5, rfl, ha, rfl, h2, h3, h4, h5⟩ := rp_t5 hR
    obtain ⟨he, hf, hb, m, rfl, hB, hC⟩ := hT
    have hc2 : 1 + cntB b + cntB c ≤ 1000 := hc
    have lb := body_len hB hs (by omega)
    have lc := plan_size hC hs
    have lb2 := plan_size hB hs
    obtain ⟨z1, z2, z3, z4⟩ := end_small hs he
    obtain ⟨y1, y2, y3, y4⟩ := end_small hs hf
    refine ⟨_, rfl, a, _, 0, _, rfl, rfl, SqT.of ha, rfl, ?_⟩
    refine ⟨_, rfl, rfl, _, rfl, ite2 (fun z => absurd z (no_word (by decide +kernel))) (fun _ => ?_)⟩
    refine ⟨_, rfl, rfl, _, rfl, ite2 (fun z => absurd z (no_word (by decide +kernel))) (fun _ => ?_)⟩
    refine ⟨_, rfl, rfl, _, rfl, ite2 (fun z => absurd z (no_word (by decide +kernel))) (fun _ => ?_)⟩
    refine ⟨_, rfl, rfl, _, rfl, ite2 (fun z => absurd z (no_word (by decide +kernel))) (fun _ => ?_)⟩
    refine ⟨_, rfl, rfl, _, rfl, ite2 (fun z => absurd z (no_word (by decide +kernel))) (fun _ => ?_)⟩
    refine ⟨_, rfl, a, _, 1, _, rfl, rfl, SqT.of ha, rfl, v2, e, rfl, h2, by omega, z3, z4, fun H1 s1 => ?_⟩
    refine ⟨_, _, rfl, rfl, szc (by rw [l_if, len_S]; omega), _, _, rfl, rfl, szc (by simp only [len_app, l_if, l_le, len_S]; omega), _, rfl, a, _, 2, _, rfl, rfl, SqT.of (s1 _ _ ha), rfl, v3, f, rfl, h3.to (Imm.same s1), by omega, y3, y4, fun H2 s2 => ?_⟩
    refine ⟨_, _, rfl, rfl, szc (by simp only [len_app, l_if, l_le, len_S]; omega), _, _, rfl, rfl, szc (by simp only [len_app, l_if, l_le, l_open, len_S]; omega), _, rfl, a, _, 3, _, rfl, rfl, SqT.of ((s1.trans s2) _ _ ha), rfl, v4, b, C, A', sc, rfl, h4.to (Imm.same (s1.trans s2)), hB, hs, by omega, fun H3 s3 => ?_⟩
    refine ⟨_, _, rfl, rfl, szc (by simp only [len_app, l_if, l_le, l_open, len_S]; omega), _, _, rfl, rfl, szc (by simp only [len_app, l_if, l_le, l_open, l_shut, len_S]; omega), ?_⟩
    have s4 := (s1.trans s2).trans s3
    have h5' := h5.to (Imm.same s4)
    obtain ⟨a5, w5, rfl, ha5, hr5⟩ := h5'
    have lw := hr5.length
    rw [encs_length] at lw
    refine ⟨_, rfl, a, _, 4, _, rfl, rfl, SqT.of (s4 _ _ ha), rfl, Nat.zero_le _, fun p np => ?_⟩
    have s5 : Same H3 (upd H3 p (.tup [])) := same_new np
    obtain ⟨e1, e2⟩ := body_eqv hC hs (by omega)
    refine ⟨toPy (.tup (encs c)), .tuple [], rp_dp _ _ (h5.to (Imm.same (s4.trans s5))), .tup (SqT.of upd_same) .nil, e1, by decide +kernel, ?_⟩
    rw [e2]
    cases c with
    | nil =>
      refine ⟨true, rfl, iteT ⟨_, rfl, str_to (Q := Q) (q _ (s4.trans s5)) ?_⟩⟩
      simp only [tl_app, tl_S]
      show _ = tl "if " ++ endL e ++ tl " <= " ++ endL f ++ tl " (" ++ planL b ++ tl ")" ++ []
      rw [List.append_nil]
    | cons c0 cr =>
      refine ⟨false, rfl, iteF ?_⟩
      refine ⟨_, rfl, _, _, rfl, rfl, szc (by simp only [len_app, l_if, l_le, l_open, l_shut, l_else, len_S]; omega), _, rfl, a, _, 4, _, rfl, rfl, SqT.of ((s4.trans s5) _ _ ha), rfl, .ref a5, c0 :: cr, C, A', sc, rfl, h5.to (Imm.same (s4.trans s5)), hC, hs, by omega, fun H6 s6 => ?_⟩
      refine ⟨_, _, rfl, rfl, szc (by simp only [len_app, l_if, l_le, l_open, l_shut, l_else, len_S]; omega), _, _, rfl, rfl, szc (by simp only [len_app, l_if, l_le, l_open, l_shut, l_else, len_S]; omega), str_to (Q := Q) (q _ ((s4.trans s5).trans s6)) ?_⟩
      simp only [tl_app, tl_S]
      show _ = tl "if " ++ endL e ++ tl " <= " ++ endL f ++ tl " (" ++ planL b ++ tl ")" ++ (tl " else (" ++ planL (c0 :: cr) ++ tl ")")
      simp only [List.append_assoc]
theorem ok_written1 (T : Tops w K mg) (n : Nat) (Gl_thing_text : FnOk P w K mg base CX0 (2 * n + 2) T.fl_thing_text T.dl_thing_text ["_law_thing"] (spThingText n)) : FnOk P w K mg base CX0 (2 * n + 3) T.fl_written T.dl_written ["_law_plan"] (spPlanText n) := by
  refine T.Fl_written.ok (k := 2 * n + 2) scl_written (fun vs H Q E h => ?_) (fun cdv A outer s H vs Q E hr h => ?_)
  · obtain ⟨v, ts, C, A', sc, rfl, _⟩ := h
    rfl
  obtain ⟨v, ts, C, A', sc, rfl, hR, hT, hs, hc, q⟩ := h
  refine ⟨_, (pss_one (ps_ret (pe_join pe_str (pe_lc (own := [("_law_thing", 1)]) rfl scl_written.nd (pi_tup (pv 0)) (blkOk_by (N := Nl_written) (sc := defScope sl_written) (by decide +kernel)) (fun _ _ _ _ _ => (pg_name (i := 1) scl_written.nd rfl (Or.inl rfl))) (fun _ _ _ _ _ => pts_nil) (fun _ _ _ _ _ => (pe_call Gl_thing_text (hr.mono (by omega)) (by rfl) T.gl_thing_text T.Fl_thing_text.kp T.bl_thing_text .nil pass0 (pa_cons (pv 1) pa_nil))))))), ?_⟩
  obtain ⟨a, vs, rfl, ha, hr2⟩ := hR
  have lw := hr2.length
  rw [encs_length] at lw
  have hl := cnt_len ts
  refine ⟨⟨_, rfl⟩, _, rfl, a, rfl, ⟨_, SqT.of ha⟩, fun Dn nD => ?_⟩
  refine lc_tup_map (K := K) (ts.map fun t => V.str (S (thingL t))) 1 rfl (fun v => rfl) (by rw [List.length_map]; exact lw.symm) (by omega) ha nD (fun i x y H2 Q2 hx hy sm k => ?_) (fun H' sm hl2 => ?_)
  · obtain ⟨t, ht, hRt⟩ := rpl_things hr2 hx
    have ey : y = .str (S (thingL t)) := by
      rw [List.getElem?_map, ht] at hy
      exact (Option.some.inj hy).symm
    subst ey
    have hm := List.mem_of_getElem? ht
    exact ⟨_, rfl, x, t, C, A', sc, rfl, hRt.to (Imm.same sm), (tsok_iff ts).mp hT t hm, hs, Nat.le_trans (cnt_mem hm) hc, k⟩
  · refine ⟨_, Dn, ts.map fun t => S (thingL t), rfl, rfl, .inl (SqL.of (by rw [hl2, List.map_map]; rfl)), things_sum hT hs hc, ?_⟩
    rw [join_things]
    exact q H' sm
theorem ok_written (T : Tops w K mg) : ∀ n : Nat, n ≤ 20 → FnOk P w K mg base CX0 (2 * n + 3) T.fl_written T.dl_written ["_law_plan"] (spPlanText n)
  | 0, h => ok_written1 T 0 (ok_l_thing_text T 0 h fn_none)
  | n + 1, h => ok_written1 T (n + 1) (ok_l_thing_text T (n + 1) h (ok_written T n (by omega)))
end
end K05

set_option Elab.async false
set_option linter.all false
set_option maxRecDepth 100000
set_option maxHeartbeats 4000000
namespace K05
open PySem PySem.Spec PyProof.Rows L2 OG
open C8 (pss_cut pe_gc)
open OGX

section
variable {P : Program} {w : World} {K : PySem.W.Frag} {mg : Str → Option Value} {base : Heap}
abbrev sB : Stmt := inClass (topS 15) 0
abbrev sI : Stmt := inClass (topS 13) 0
abbrev sR : Stmt := inClass (topS 12) 0
theorem scB : FnScope ["self", "at"] ["self", "at"] (defScope sB) := ⟨rfl, rfl, rfl, by decide +kernel, rfl, by decide +kernel, by decide +kernel⟩
theorem scI : FnScope ["self", "word", "why"] ["self", "word", "why"] (defScope sI) := ⟨rfl, rfl, rfl, by decide +kernel, rfl, by decide +kernel, by decide +kernel⟩
theorem scR : FnScope ["self", "word", "why"] ["self", "word", "why"] (defScope sR) := ⟨rfl, rfl, rfl, by decide +kernel, rfl, by decide +kernel, by decide +kernel⟩
structure Exx (K : PySem.W.Frag) (mg : Str → Option Value) where
  CB : Addr
  gB : mg "BadText" = some (.ref CB)
  CI : Addr
  gI : mg "Misread" = some (.ref CI)
  CR : Addr
  gR : mg "Refused" = some (.ref CR)
  CF : Addr
  gF : mg "Unfit" = some (.ref CF)
  oB : OexC K CB
  wB : PySem.W.findIn K (.ref CB) "word" = some none
  aB : PySem.W.findIn K (.ref CB) "at" = some none
  xB : XfC K CB
  eB : ExcC K CB
  kI : PySem.W.kitOne K (.ref CB) (.ref CI) = some true
  kF : PySem.W.kitOne K (.ref CB) (.ref CF) = some false
  kV : PySem.W.kitOne K (.ref CB) (.type "ValueError") = some true
  fB : Addr
  dB : FuncData
  FB : FunD K "__init__" "BadText.__init__" (defArgs sB) (defBody sB) (defScope sB) [] [] fB dB
  iB : PySem.W.findIn K (.ref CB) "__init__" = some (some (.ref fB))
  tB : PySem.W.typeIn K (.ref fB) = some (.type "function")
  fI : Addr
  dI : FuncData
  FI : FunD K "__init__" "Misread.__init__" (defArgs sI) (defBody sI) (defScope sI) [.str "Misread", .str ""] [] fI dI
  vI : PySem.W.findCls K (.ref CI) (.type "type") "__init__" = some (.val (.ref fI))
  cI : ClX.CRead K CI (.type "type")
  fR : Addr
  dR : FuncData
  FR : FunD K "__init__" "Refused.__init__" (defArgs sR) (defBody sR) (defScope sR) [.str "Refused", .str ""] [] fR dR
  vR : PySem.W.findCls K (.ref CR) (.type "type") "__init__" = some (.val (.ref fR))
  cR : ClX.CRead K CR (.type "type")
  mV : mg "ValueError" = none
  vV : PySem.W.findCls K (.type "ValueError") (.type "type") "__init__" = some (.val (.builtin "ValueError.__init__"))
  yBB : PySem.W.exmOne K (.ref CB) (.ref CB) = some true
  aR : Addr
  gRd : mg "READERS" = some (.ref aR)
  nR : ∀ z, z ∉ kinds → PySem.W.nsIn K aR z = some none
def spRef (K : PySem.W.Frag) : Sp := fun vs H Q _ => ∃ (a C : Addr) (wd y : Str), vs = [.ref a, .str wd, .str y] ∧ wd.length ≤ 100 ∧ y.length ≤ 1000 ∧ H a = some (exo a C none) ∧ OexC K C ∧ PySem.W.findIn K (.ref C) "word" = some none ∧
  ∀ dx, H dx = none → dx ≠ a → Q .non (upd (upd H dx (exd dx [("word", .str wd)])) a (exo a C (some dx)))
def spBt (K : PySem.W.Frag) : Sp := fun vs H Q _ => ∃ (a C : Addr) (n : Nat), vs = [.ref a, .int n] ∧ n < 100000 ∧ H a = some (exo a C none) ∧ OexC K C ∧ PySem.W.findIn K (.ref C) "word" = some none ∧ PySem.W.findIn K (.ref C) "at" = some none ∧
  ∀ dx, H dx = none → dx ≠ a → Q .non (upd (upd (upd H dx (exd dx [("word", .str "BadText")])) a (exo a C (some dx))) dx (exd dx [("at", .int n), ("word", .str "BadText")]))
theorem Exx.bR (X : Exx K mg) : Binds K X.dR ["self", "word", "why"] [] := by
  obtain ⟨ds, h1, h2⟩ := X.FR.binds1 (ps := ["self", "word", "why"]) 3 2 (by simp) rfl (fun T kV doc pm an cdv ct us its l1 l2 => by
    match us, l1, its, l2 with
    | [_, _, _], _, [_, _], _ => exact ⟨_, rfl, rfl⟩)
  cases h1
  exact h2
theorem Exx.bI (X : Exx K mg) : Binds K X.dI ["self", "word", "why"] [] := by
  obtain ⟨ds, h1, h2⟩ := X.FI.binds1 (ps := ["self", "word", "why"]) 3 2 (by simp) rfl (fun T kV doc pm an cdv ct us its l1 l2 => by
    match us, l1, its, l2 with
    | [_, _, _], _, [_, _], _ => exact ⟨_, rfl, rfl⟩)
  cases h1
  exact h2
theorem Exx.bB (X : Exx K mg) : Binds K X.dB ["self", "at"] [] := X.FB.bindsN fun kV doc pm an cdv ct us hl => match us, hl with | [_, _], _ => rfl
theorem ok_R (T : Tops w K mg) (X : Exx K mg) : FnOk P w K mg base CX0 1 X.fR X.dR ["self", "word", "why"] (spRef K) := by
  refine X.FR.ok scR (fun vs H Q E h => ?_) (fun cdv A outer s H vs Q E hr h => ?_)
  · obtain ⟨a, C, wd, y, rfl, _⟩ := h
    rfl
  obtain ⟨a, C, wd, y, rfl, l1, l2, ha, hO, hW, q⟩ := h
  refine ⟨_, pss_cons (ps_expr (pe_veinit (by rfl) X.mV X.vV (pa_cons (pv 0) (pa_cons (pe_strip (pe_joined (.cons (pe_fmt (pv 1)) (.cons pe_str (.cons (pe_fmt (pv 2)) .nil))))) pa_nil)))) (pss_one (ps_ost (pv 0) (pv 1))), ?_⟩
  have l3 : (" " : Str).length = 1 := by decide +kernel
  have l0 := l_emp
  refine ⟨_, rfl, _, rfl, .inl ⟨wd, rfl, sz (by omega), _, rfl, szs (by rw [l_emp]; omega), _, rfl, szs (by rw [len_app, l_emp, l3]; omega), _, rfl, .inl ⟨y, rfl, sz (by omega), _, rfl, szs (by rw [len_app, len_app, l_emp, l3]; omega), ⟨_, rfl⟩, _, rfl, rfl, sz (by rw [len_app, len_app, len_app, l_emp, l3]; omega), ?_⟩⟩⟩
  refine ⟨a, C, _, rfl, (by show 1 ≤ 1000; decide), hO, ha, ?_⟩
  exact ⟨_, rfl, _, rfl, a, C, rfl, hO, hW, .inl ⟨ha, fun dx n ne => q dx n ne⟩⟩
theorem ok_I (T : Tops w K mg) (X : Exx K mg) : FnOk P w K mg base CX0 2 X.fI X.dI ["self", "word", "why"] (spRef K) := by
  have GR : FnOk P w K mg base CX0 1 X.fR X.dR ["self", "word", "why"] (spRef K) := ok_R T X
  refine X.FI.ok scI (fun vs H Q E h => ?_) (fun cdv A outer s H vs Q E hr h => ?_)
  · obtain ⟨a, C, wd, y, rfl, _⟩ := h
    rfl
  obtain ⟨a, C, wd, y, rfl, l1, l2, ha, hO, hW, q⟩ := h
  refine ⟨_, pss_one (ps_expr (pe_cfun GR (hr.mono (by omega)) (by rfl) X.gR X.cR X.vR X.FR.kp X.bR .nil pass0 (pa_cons (pv 0) (pa_cons (pv 1) (pa_cons (pv 2) pa_nil))))), ?_⟩
  exact ⟨_, rfl, _, rfl, _, rfl, a, C, wd, y, rfl, l1, l2, ha, hO, hW, q⟩
theorem l_at : ("at " : Str).length = 3 := by decide +kernel
theorem ok_B (T : Tops w K mg) (X : Exx K mg) : FnOk P w K mg base CX0 3 X.fB X.dB ["self", "at"] (spBt K) := by
  have GI : FnOk P w K mg base CX0 2 X.fI X.dI ["self", "word", "why"] (spRef K) := ok_I T X
  refine X.FB.ok scB (fun vs H Q E h => ?_) (fun cdv A outer s H vs Q E hr h => ?_)
  · obtain ⟨a, C, n, rfl, _⟩ := h
    rfl
  obtain ⟨a, C, n, rfl, hn, ha, hO, hW, hA, q⟩ := h
  refine ⟨_, pss_cons (ps_expr (pe_cfun GI (hr.mono (by omega)) (by rfl) X.gI X.cI X.vI X.FI.kp X.bI .nil pass0 (pa_cons (pv 0) (pa_cons pe_str (pa_cons (pe_joined (.cons pe_str (.cons (pe_fmt (pv 1)) .nil))) pa_nil))))) (pss_one (ps_ost (pv 0) (pv 1))), ?_⟩
  have l1 := at_len hn
  have l0 := l_emp
  refine ⟨_, rfl, _, rfl, szs (by rw [l_emp, l_at]; omega), _, rfl, .inr ⟨(n : Int), rfl, Nat.lt_trans (at_log hn) (by decide), _, rfl, szs (by rw [len_app, l_emp, l_at]; omega), ?_⟩⟩
  refine ⟨a, C, "BadText", _, rfl, by decide +kernel, by rw [len_app, len_app, l_emp, l_at]; omega, ha, hO, hW, fun dx n' ne => ?_⟩
  refine ⟨_, rfl, _, rfl, a, C, rfl, hO, hA, .inr ⟨dx, _, upd_same, ?_, by decide, q dx n' ne⟩⟩
  rw [upd_ne ne]
  exact upd_same
theorem end_bt {C : Addr} {n : Nat} {H3 : Hp} {E : XK} {a dx : Addr} (h : ∀ dd H', Same H3 H' → H' dd = some (.xd (fldB n)) → E (.ref C) (some dd) H') (na : H3 a = none) (n0 : (upd H3 a (exo a C none)) dx = none) (ne : dx ≠ a) :
    V.non = V.non ∧ ∃ (d : Addr) (fs : List (Str × V)), (upd (upd (upd (upd H3 a (exo a C none)) dx (exd dx [("word", .str "BadText")])) a (exo a C (some dx))) dx (exd dx [("at", .int n), ("word", .str "BadText")])) a = some (exo a C (some d)) ∧
      (upd (upd (upd (upd H3 a (exo a C none)) dx (exd dx [("word", .str "BadText")])) a (exo a C (some dx))) dx (exd dx [("at", .int n), ("word", .str "BadText")])) d = some (exd d fs) ∧ H3 d = none ∧
      E (.ref C) (some d) (upd (del (upd (upd (upd (upd H3 a (exo a C none)) dx (exd dx [("word", .str "BadText")])) a (exo a C (some dx))) dx (exd dx [("at", .int n), ("word", .str "BadText")])) a) d (.xd fs)) := by
  have n3 : H3 dx = none := by rw [upd_ne ne] at n0; exact n0
  refine ⟨rfl, dx, _, by rw [upd_ne (Ne.symm ne)]; exact upd_same, upd_same, n3, h dx _ (fun y u hy => ?_) upd_same⟩
  have na2 := ne_of_none hy na
  have nd2 := ne_of_none hy n3
  rw [upd_ne nd2, del_ne na2, upd_ne nd2, upd_ne na2, upd_ne nd2, upd_ne na2]
  exact hy
end
end K05

set_option Elab.async false
set_option linter.all false
set_option maxRecDepth 100000
set_option maxHeartbeats 4000000
namespace K05
open PySem PySem.Spec PyProof.Rows L2 OG
open C8 (pss_cut pe_gc)
open OGX

section
variable {P : Program} {w : World} {K : PySem.W.Frag} {mg : Str → Option Value} {base : Heap}
def spClass (CB : Addr) : SpX := fun a cls d vs H Q _ => vs = [.ref a] ∧ cls = .ref CB ∧ ∃ dd n, d = some dd ∧ H dd = some (.xd (fldB n)) ∧ Q (.str "BadText") H
theorem ok_class (T : Tops w K mg) (X : Exx K mg) : FnX P w K mg base 1 T.fl_class T.dl_class ["_law_e"] (spClass X.CB) := by
  obtain ⟨oc, od, kV, doc, pm, an, cdv, ct, osl, e, lk, hcd⟩ := T.Fl_class.ex
  rw [e] at lk ⊢
  refine fn_ofX (N := Nl_class) lk hcd scl_class (fun a cls d vs H Q E h => ?_) (fun A outer s H vs Q E a oe cls d hz hf hr h => ?_)
  · obtain ⟨rfl, _⟩ := h
    rfl
  obtain ⟨rfl, rfl, dd, n, rfl, hdd, q⟩ := h
  have hp : (a, oe) ∈ (L2H.cxH C8.CX0 P w K mg base Nl_class "_law_class" (defScope sl_class) T.fl_class cdv A outer s H E (a, oe)).pn := List.mem_cons_self
  refine ⟨_, pss_cons (ps_if (PW.pt (pw_or (pt_cmpR op_eq (pe_callB (call_isX hp hz hf) (by rfl) T.misinstance (by decide +kernel) (pa_cons (pv 0) (pa_cons (pe_gc (v := .ref X.CI) (by rfl) ⟨_, X.gI, rfl⟩) pa_nil))) (pe_callB (call_isX hp hz hf) (by rfl) T.misinstance (by decide +kernel) (pa_cons (pv 0) (pa_cons (pe_gc (v := .ref X.CF) (by rfl) ⟨_, X.gF, rfl⟩) pa_nil))) (nomark _)) (pw_or1 (pt_not (pt_val (pe_callB (call_isX hp hz hf) (by rfl) T.misinstance (by decide +kernel) (pa_cons (pv 0) (pa_cons (pe_bltn (v := .ty "ValueError") (by rfl) X.mV (by decide +kernel) rfl) pa_nil))))))))
    (pss_one (ps_ret pe_str)) pss_nil) (pss_one (ps_ret (pe_xfX (n := "word") hp X.xB X.wB hz hf (pv 0)))), ?_⟩
  refine ⟨_, rfl, X.CB, dd, _, .ref X.CI, _, true, rfl, rfl, rfl, X.eB, hdd, fun u h => h, X.kI, ?_⟩
  refine ⟨_, rfl, X.CB, dd, _, .ref X.CF, _, false, rfl, rfl, rfl, X.eB, hdd, fun u h => h, X.kF, ?_⟩
  refine ⟨rfl, _, rfl, ite2 (fun z => absurd z (by decide)) (fun _ => ?_)⟩
  refine ⟨_, rfl, X.CB, dd, _, .ty "ValueError", _, true, rfl, rfl, rfl, X.eB, hdd, fun u h => h, X.kV, _, rfl, ite2 (fun z => absurd z (by decide)) (fun _ => ?_)⟩
  exact ⟨_, rfl, rfl, rfl, dd, _, _, rfl, hdd, rfl, q⟩
def eTried (CB : Addr) (Q : VK) : XK := fun cls d H' => cls = .ref CB ∧ ∃ dd n, d = some dd ∧ H' dd = some (.xd (fldB n)) ∧ ∀ p, H' p = none → Q (.ref p) (upd H' p (.tup [.str "BadText", .int n]))
def TTried (CB : Addr) : (XK → Hp → VK → Prop) → Hp → VK → Prop := fun tl H Q => tl (eTried CB Q) H (fun v H' => 2 ≤ sizeLine ∧ ∀ p, H' p = none → Q (.ref p) (upd H' p (.tup [.str "told", v])))
theorem exm_yes {cls c : Value} (h : PySem.W.exmOne K cls c = some true) : PySem.W.exmAny K cls [c] = some true := by
  simp only [PySem.W.exmAny, h]
  rfl
theorem tried_gives {Y : Cx} {k : Nat} {cdg : Value} {q : Str} (T : Tops Y.w Y.K Y.mg) (X : Exx Y.K Y.mg) (GC : FnX Y.prog Y.w Y.K Y.mg Y.base 1 T.fl_class T.dl_class ["_law_e"] (spClass X.CB)) (hr : Room (k + 3) Y.A) :
    LamX.GivesTo Y Nl_tried "_law_tried" (defScope sl_tried) T.fl_tried cdg (defBody sl_tried) "_law_ask" q (TTried X.CB) := by
  intro f c' s H Q tl act hc h
  have hR : L2H.RoomH 1 (cxOf C8.CX0 Y.prog Y.w Y.K Y.mg Y.base Nl_tried "_law_tried" (defScope sl_tried) T.fl_tried cdg Y.A Y.stack s H C8.E0).nox.A := (L2H.roomH_of ((hr.deeper _).mono (by omega)))
  refine ⟨_, pss_one (ps_try_X (X := (cxOf C8.CX0 Y.prog Y.w Y.K Y.mg Y.base Nl_tried "_law_tried" (defScope sl_tried) T.fl_tried cdg Y.A Y.stack s H C8.E0).nox)
      (tb := fun W D σ H => ∃ Ech : XK, (∀ cls d σ' H', Ech cls d H' → W cls d σ' H') ∧ σ[0]? = some (some (.ref f)) ∧ H c' = some (LamX.CodeO c' q) ∧ tl Ech H (fun v H' => 2 ≤ sizeLine ∧ ∀ p, H' p = none → D.rt (.ref p) (upd H' p (.tup [.str "told", v]))))
      rfl rfl scl_tried.nd (fun W pn xe tk _ => ?_)
      (.cons (i := 1) rfl rfl (.one ⟨by rfl, by decide, .inl X.gB⟩)
        (fun a oe cls d pn hz hf => pss_one (ps_ret (pe_tup (pa_cons (pe_callX GC hR hz hf (by rfl) T.gl_class T.Fl_class.kp T.bl_class (pa_cons (pv 1) pa_nil)) (pa_cons (pe_xfX (n := "at") List.mem_cons_self X.xB X.aB hz hf (pv 1)) pa_nil)))))
      .nil)), ?_⟩
  · refine ⟨fun pins s' σ H' D I h' => ?_⟩
    obtain ⟨Ech, hW, h1, h2, h3⟩ := h'
    exact PSs.run (X := ((cxOf C8.CX0 Y.prog Y.w Y.K Y.mg Y.base Nl_tried "_law_tried" (defScope sl_tried) T.fl_tried cdg Y.A Y.stack s H C8.E0).nox.tr pn xe)) (pss_one (ps_ret (pe_tup (pa_cons pe_str (pa_cons (act W pn xe Ech _ _ tk hW) pa_nil))))) pins s' σ H' D I ⟨h1, h2, h3⟩
  · refine ⟨eTried X.CB Q, fun cls d σ' H' hE => ?_, rfl, hc, ?_⟩
    · obtain ⟨rfl, dd, n, rfl, hdd, qd⟩ := hE
      refine ⟨true, exm_yes X.yBB, fun _ hlen a na => ?_, (fun z => by cases z)⟩
      match σ', hlen with
      | [x0, x1], _ =>
        exact ⟨_, rfl, ⟨rfl, rfl, dd, n, rfl, hdd, _, rfl, rfl, rfl, dd, _, _, rfl, hdd, rfl, (by show 2 ≤ sizeLine; decide), fun p np => qd p np⟩⟩
    · exact h
end
end K05

set_option Elab.async false
set_option linter.all false
set_option maxRecDepth 100000
set_option maxHeartbeats 4000000
namespace K05
open PySem PySem.Spec PyProof.Rows L2 OG
open C8 (pss_cut pe_gc)
open OGX

section
variable {P : Program} {w : World} {K : PySem.W.Frag} {mg : Str → Option Value} {base : Heap}
theorem ns_not {K : PySem.W.Frag} {a : Addr} {es : Array DictEntry} {n : Nat} (l : K.lookup a = some ⟨.type "dict", none, .dict es n, #[]⟩) (ks : (es.toList.all fun e => kinds.any fun k => e.key.isStr k) = true) (rk : es.toList.any (·.refKey) = false) {z : Str} (hz : z ∉ kinds) : PySem.W.nsIn K a z = some none := by
  have hf : es.toList.find? (·.key.isStr z) = none := by
    rw [List.find?_eq_none]
    intro e he hs
    obtain ⟨k, hk, hs2⟩ := List.any_eq_true.mp (List.all_eq_true.mp ks e he)
    rw [PySem.W.isStr_of] at hs hs2
    obtain ⟨t1, e1⟩ := Value.isStrOf_shape hs
    obtain ⟨t2, e2⟩ := Value.isStrOf_shape hs2
    rw [e1] at e2
    injection e2 with e3 _
    exact hz (e3 ▸ hk)
  unfold PySem.W.nsIn
  rw [l]
  dsimp only
  rw [hf]
  dsimp only
  rw [rk]
  rfl
theorem exx_mk {K : PySem.W.Frag} {h : Heap} {mg : Str → Option Value} (X : K.In h) (G : h.Ns mainGlobals mg)
    {CB CI CR CF fB fI fR TI TR : Addr}
    {N0B : Addr} {nmB qB : Str} {bsB bmB subB : List Value} {snB : List Str} {abB : Bool} {colB : Option Bool} {ddB : Option Addr} {m0B m1B m2B m3B m5B : Option Value}
    {ocB kVB dcB pmB cdB ctB : Value} {odB anB : Option Addr} {slB : Array (Option Value)}
    {ocI kVI dcI pmI cdI ctI : Value} {odI anI : Option Addr} {slI : Array (Option Value)}
    {ocR kVR dcR pmR cdR ctR : Value} {odR anR : Option Addr} {slR : Array (Option Value)}
    {dxI : Option Addr} {sxI : Array (Option Value)} {tk1I tk2I : Tok} {nnI : Nat}
    {dxR : Option Addr} {sxR : Array (Option Value)} {tk1R tk2R : Tok} {nnR : Nat}
    {aRd : Addr} {deR : Array DictEntry} {dnR : Nat}
    (aB : PySem.W.nsIn K mainGlobals "BadText" = some (some (.ref CB)))
    (aI : PySem.W.nsIn K mainGlobals "Misread" = some (some (.ref CI)))
    (aR : PySem.W.nsIn K mainGlobals "Refused" = some (some (.ref CR)))
    (aF : PySem.W.nsIn K mainGlobals "Unfit" = some (some (.ref CF)))
    (oc : PySem.W.specialIn K (.builtin "object.__class__") "__get__" = some (some (.builtin "getset_descriptor.__get__")))
    (ot : PySem.W.takesIn K (.builtin "object.__class__") = some true)
    (xB : K.lookup CB = some (excClassObj nmB qB CB N0B bsB bmB true snB subB abB colB ddB m0B m1B m2B m3B m5B "ValueError.__new__"))
    (rB : PySem.HandSPX.refsVE bmB = true)
    (saB : PySem.W.findIn K (.ref CB) "__setattr__" = some (some (.builtin "object.__setattr__")))
    (eB : PySem.W.subIn K (.ref CB) (.type "BaseException") = some true)
    (tB : PySem.W.typeIn K (.ref CB) = some (.type "type"))
    (kB : PySem.W.keepIn K (.ref CB) = true)
    (gaB : PySem.W.findIn K (.ref CB) "__getattribute__" = some (some (.builtin "BaseException.__getattribute__")))
    (ggB : PySem.W.findIn K (.ref CB) "__getattr__" = some none)
    (hdB : PySem.W.hasDictIn K CB = true)
    (gcB : PySem.W.findIn K (.ref CB) "__class__" = some (some (.builtin "object.__class__")))
    (moB : PySem.W.mroIn K CB (.type "object") = some true)
    (wB : PySem.W.findIn K (.ref CB) "word" = some none)
    (atB : PySem.W.findIn K (.ref CB) "at" = some none)
    (iB : PySem.W.findIn K (.ref CB) "__init__" = some (some (.ref fB)))
    (tiB : PySem.W.typeIn K (.ref fB) = some (.type "function"))
    (kI : PySem.W.kitOne K (.ref CB) (.ref CI) = some true)
    (kF : PySem.W.kitOne K (.ref CB) (.ref CF) = some false)
    (kV0 : PySem.W.kitOne K (.ref CB) (.type "ValueError") = some true)
    (fcI : PySem.W.findCls K (.ref CI) (.type "type") "__init__" = some (.val (.ref fI)))
    (fcR : PySem.W.findCls K (.ref CR) (.type "type") "__init__" = some (.val (.ref fR)))
    (lB : K.lookup fB = some ⟨ocB, odB, .func (PySem.W.fnOf "__init__" "BadText.__init__" (defArgs sB) (defBody sB) (defScope sB) .none kVB dcB pmB anB cdB ctB), slB⟩)
    (cB : PySem.W.codeIn K cdB "BadText.__init__" = true)
    (kpB : PySem.W.keepIn K (.ref fB) = true)
    (lI : K.lookup fI = some ⟨ocI, odI, .func (PySem.W.fnOf "__init__" "Misread.__init__" (defArgs sI) (defBody sI) (defScope sI) (.ref TI) kVI dcI pmI anI cdI ctI), slI⟩)
    (cI : PySem.W.codeIn K cdI "Misread.__init__" = true)
    (kpI : PySem.W.keepIn K (.ref fI) = true)
    (lR : K.lookup fR = some ⟨ocR, odR, .func (PySem.W.fnOf "__init__" "Refused.__init__" (defArgs sR) (defBody sR) (defScope sR) (.ref TR) kVR dcR pmR anR cdR ctR), slR⟩)
    (cR : PySem.W.codeIn K cdR "Refused.__init__" = true)
    (kpR : PySem.W.keepIn K (.ref fR) = true)
    (dtI : K.lookup TI = some ⟨.type "tuple", dxI, .seq #[.str "Misread" tk1I, .str "" tk2I] nnI, sxI⟩)
    (rdI : PySem.W.readsIn K CI (.type "type") = true)
    (sgI : PySem.W.specialIn K (.ref CI) "__getattribute__" = some (some (.builtin "type.__getattribute__")))
    (dtR : K.lookup TR = some ⟨.type "tuple", dxR, .seq #[.str "Refused" tk1R, .str "" tk2R] nnR, sxR⟩)
    (rdR : PySem.W.readsIn K CR (.type "type") = true)
    (sgR : PySem.W.specialIn K (.ref CR) "__getattribute__" = some (some (.builtin "type.__getattribute__")))
    (zV : PySem.W.nsIn K mainGlobals "ValueError" = some none)
    (ve : PySem.W.findCls K (.type "ValueError") (.type "type") "__init__" = some (.val (.builtin "ValueError.__init__")))
    (uBB : PySem.W.subIn K (.ref CB) (.ref CB) = some true)
    (dvR : PySem.W.nsIn K mainGlobals "READERS" = some (some (.ref aRd)))
    (dlR : K.lookup aRd = some ⟨.type "dict", none, .dict deR dnR, #[]⟩)
    (ksR : (deR.toList.all fun e => kinds.any fun k => e.key.isStr k) = true)
    (rkR : deR.toList.any (·.refKey) = false) : Nonempty (Exx K mg) :=
  ⟨{ aR := aRd, gRd := PySem.W.mg_of X G dvR, nR := fun z hz => ns_not dlR ksR rkR hz, CB := CB, gB := PySem.W.mg_of X G aB, CI := CI, gI := PySem.W.mg_of X G aI, CR := CR, gR := PySem.W.mg_of X G aR, CF := CF, gF := PySem.W.mg_of X G aF, oB := ⟨⟨_, _, _, _, _, _, _, _, _, _, _, _, _, _, _, xB, rB⟩, saB, eB, tB, kB⟩, wB := wB, aB := atB, xB := ⟨gaB, ggB, eB, hdB⟩, eB := ⟨gaB, ggB, eB, hdB, gcB, oc, ot, moB⟩, kI := kI, kF := kF, kV := kV0, fB := fB, dB := _, FB := ⟨⟨_, _, _, _, _, _, _, _, _, _, rfl, lB, cB, .inl ⟨rfl, rfl⟩, .inl rfl⟩, kpB⟩, iB := iB, tB := tiB, fI := fI, dI := _, FI := ⟨⟨_, _, _, _, _, _, _, _, _, _, rfl, lI, cI, .inr ⟨by simp, _, _, _, _, rfl, dtI, rfl, .cons ⟨_, rfl⟩ (.cons ⟨_, rfl⟩ .nil)⟩, .inl rfl⟩, kpI⟩, vI := fcI, cI := ⟨rdI, sgI⟩, fR := fR, dR := _, FR := ⟨⟨_, _, _, _, _, _, _, _, _, _, rfl, lR, cR, .inr ⟨by simp, _, _, _, _, rfl, dtR, rfl, .cons ⟨_, rfl⟩ (.cons ⟨_, rfl⟩ .nil)⟩, .inl rfl⟩, kpR⟩, vR := fcR, cR := ⟨rdR, sgR⟩, mV := PySem.W.mg_none_of X G zV, vV := ve, yBB := PySem.W.exm_ref eB hdB tB uBB }⟩
theorem codeHd_of {K : PySem.W.Frag} {h : Heap} (X : K.In h) {c P : Addr} {dd : Option Addr} {vs : Array Value} {sl : Array (Option Value)} (l : K.lookup c = some ⟨.type "code", dd, .fields vs, sl⟩) (h11 : vs[11]? = some (.ref P)) (g11 : vs.getD 11 .none = .ref P)
    {fl : Str} {tf tg tt : Tok} {flags tx : Int} {inF : Bool} (h18 : vs.getD 18 .none = .str fl tf) (h7 : vs.getD 7 .none = .int flags tg) (h9 : vs.getD 9 .none = .bool inF) (h10 : vs.getD 10 .none = .int tx tt) (ne : c ≠ P) : PySem.W.CodeHd h c P :=
  ⟨_, vs, fl, tf, flags, tg, inF, tx, tt, X _ _ l, rfl, rfl, h11, g11, h18, h7, h9, h10, ne⟩
end
end K05

set_option Elab.async false
set_option linter.all false
set_option maxRecDepth 100000
set_option maxHeartbeats 4000000
namespace K05
open PySem PySem.Spec PyProof.Rows L2 OG
open C8 (pss_cut pe_gc)
open OGX

section
variable {P : Program} {w : World} {K : PySem.W.Frag} {mg : Str → Option Value} {base : Heap}
theorem ok_is_name (T : Tops w K mg) : FnOk P w K mg base CX0 1 T.fis_name T.dis_name ["text"] spName := by
  refine T.Fis_name.ok scis_name (fun vs H Q E h => ?_) (fun cdv A outer s H vs Q E hr h => ?_)
  · obtain ⟨z, rfl, _⟩ := h
    rfl
  obtain ⟨z, rfl, hz, q⟩ := h
  refine ⟨_, (pss_cons (ps_if (PW.pt (pw_or (pt_cmpR op_in_seq (pv 0) (pe_gc (by rfl) T.cNO_NAMES) (by rfl)) (pw_or1 (pt_not (pt_chain op_le op_le pe_int (pe_callB call_len_str (by rfl) T.mlen PySem.boot_len (pa_cons (pv 0) pa_nil)) (pe_gc (by rfl) T.cMOST_LETTERS))))))
  (pss_one (ps_ret pe_bl))
  pss_nil)
 (pss_one (ps_ret (pe_callB (cr_all rfl) (by rfl) T.mall (by decide +kernel) (pa_cons (pe_lc (own := [("letter", 1)]) rfl scis_name.nd (pi_str (pv 0)) (blkOk_by (N := Nis_name) (sc := defScope sis_name) (by decide +kernel)) (fun _ _ _ _ _ => (pg_name (i := 1) scis_name.nd rfl (Or.inl rfl))) (fun _ _ _ _ _ => pts_nil) (fun _ _ _ _ _ => (pe_cmpR op_in_sign (pv 1) (pe_gc (by rfl) T.cLETTERS) (by rfl)))) pa_nil))))), ?_⟩
  refine ⟨_, rfl, T.aNO_NAMES, _, rfl, .inr (T.tNO_NAMES H), rfl, rfl, _, rfl, ite2 (fun c1 => ?_) (fun c1 => ?_)⟩
  · have e : nameB z = false := by
      unfold nameB
      have c2 : inV (.str z) (kept.map V.str) = true := c1
      rw [c2]
      rfl
    have q2 := q H (Same.refl H)
    rw [e] at q2
    exact iteT q2
  · have c2 : inV (.str z) (kept.map V.str) = false := by
      cases h : inV (.str z) (kept.map V.str) with
      | false => rfl
      | true => exact absurd h c1
    refine ⟨_, rfl, z, rfl, sz (by omega), 1, _, rfl, rfl, _, rfl, ite2 (fun c3 => ?_) (fun c3 => ?_)⟩
    · refine ⟨_, 8, rfl, rfl, _, rfl, ite2 (fun c4 => ?_) (fun c4 => ?_)⟩
      · have e : nameB z = false := by
          unfold nameB
          have c5 : ¬ ((z.length : Int) ≤ 8) := fun h => by
            rw [decide_eq_true h] at c4
            cases c4
          rw [decide_eq_false c5, Bool.and_false, Bool.and_false, Bool.false_and]
        have q2 := q H (Same.refl H)
        rw [e] at q2
        exact q2
      · have c5 : (z.length : Int) ≤ 8 := by
          by_cases h : (z.length : Int) ≤ 8
          · exact h
          · rw [decide_eq_false h] at c4
            exact absurd rfl c4
        refine ⟨_, rfl, z, rfl, fun D nD => ?_⟩
        refine lc_str_val (fun c => .bl (decide (c ∈ tl "abcdefghijklmnopqrstuvwxyz"))) 1 rfl (fun v => rfl) hz nD (fun c _ H2 Q2 _ h => ⟨_, rfl, c, _, rfl, rfl, h⟩) (fun H' sm hl => ?_)
        refine ⟨D, (tl z).map (fun c => decide (c ∈ tl "abcdefghijklmnopqrstuvwxyz")), rfl, SqL.of (by rw [List.map_map]; exact hl), ?_⟩
        have e : nameB z = ((tl z).map (fun c => decide (c ∈ tl "abcdefghijklmnopqrstuvwxyz"))).all id := by
          unfold nameB
          rw [c2, decide_eq_true (of_decide_eq_true c3), decide_eq_true c5]
          rfl
        rw [← e]
        exact q H' sm
    · have e : nameB z = false := by
        unfold nameB
        have c5 : ¬ ((1 : Int) ≤ (z.length : Int)) := fun h => c3 (decide_eq_true h)
        rw [decide_eq_false c5, Bool.false_and, Bool.and_false, Bool.false_and]
      have q2 := q H (Same.refl H)
      rw [e] at q2
      exact ⟨_, rfl, iteT q2⟩
theorem ok_run_end (T : Tops w K mg) : FnOk P w K mg base CX0 1 T.frun_end T.drun_end ["text", "at", "kind"] spRunEnd := by
  refine T.Frun_end.ok (k := 0) scrun_end (fun vs H Q E h => ?_) (fun cdv A outer s H vs Q E hr h => ?_)
  · obtain ⟨z, kind, at_, rfl, _⟩ := h
    rfl
  obtain ⟨z, kind, at_, rfl, hz, ha, q⟩ := h
  refine ⟨_, (pss_cons (ps_set (i := 3) scrun_end.nd rfl (Or.inl rfl) (pv 1))
 (pss_cons (ps_while PassesOwn.never (PW.pt (pw_and (pt_cmpR op_lt (pv 3) (pe_callB call_len_str (by rfl) T.mlen PySem.boot_len (pa_cons (pv 0) pa_nil)) (nomark _)) (pw_and1 (pt_cmpR op_in_sign (pe_ix ix_str (pv 0) (pv 3) (fun _ _ => rfl)) (pv 2) (by rfl)))))
  (pss_one (ps_aug (i := 3) scrun_end.nd rfl (Or.inl rfl) pe_int ip_add)))
 (pss_one (ps_ret (pv 3))))), ?_⟩
  have lz := len_tl z
  refine ⟨_, rfl, ?_⟩
  refine ⟨fun m σ H' => H' = H ∧ ∃ e : Nat, σ = [some (.str z), some (.int at_), some (.str kind), some (.int e)] ∧ e ≤ z.length ∧ m = z.length - e ∧ e + run (tl kind) ((tl z).drop e) = at_ + run (tl kind) ((tl z).drop at_), ⟨z.length - at_, rfl, at_, rfl, ha, rfl, rfl⟩, ?_⟩
  rintro m σ H' ⟨rfl, e, rfl, he, rfl, hrun⟩
  refine ⟨_, rfl, _, rfl, z, rfl, sz (by omega), _, _, rfl, rfl, _, rfl, ite2 (fun c1 => ?_) (fun c1 => ?_)⟩
  · have c2 : (e : Int) < (z.length : Int) := of_decide_eq_true c1
    have he2 : e < (tl z).length := by omega
    have hd : (tl z).drop e = (tl z)[e] :: (tl z).drop (e + 1) := List.drop_eq_getElem_cons he2
    refine ⟨_, rfl, _, rfl, z, _, _, rfl, rfl, sz (by omega), at_head hd, _, rfl, _, kind, rfl, rfl, _, rfl, ite2 (fun c3 => ?_) (fun c3 => ?_)⟩
    · have c4 : (tl z)[e] ∈ tl kind := of_decide_eq_true c3
      rw [hd, run_in c4] at hrun
      refine ⟨_, fun σ' H' z => z, ?_⟩
      refine ⟨_, rfl, _, _, rfl, rfl, ?_⟩
      exact ⟨z.length - (e + 1), by omega, rfl, e + 1, rfl, by omega, rfl, by omega⟩
    · have c4 : (tl z)[e] ∉ tl kind := fun z => c3 (decide_eq_true z)
      rw [hd, run_out c4] at hrun
      refine ⟨_, rfl, ?_⟩
      rw [show e = at_ + run (tl kind) ((tl z).drop at_) by omega]
      exact q
  · have c2 : ¬ (e : Int) < (z.length : Int) := fun z => c1 (decide_eq_true z)
    have hd : (tl z).drop e = [] := List.drop_eq_nil_of_le (by omega)
    rw [hd, run_nil] at hrun
    refine iteF ⟨_, rfl, ?_⟩
    rw [show e = at_ + run (tl kind) ((tl z).drop at_) by omega]
    exact q
theorem ok_word_end (T : Tops w K mg) (X : Exx K mg) : FnOk P w K mg base (L2.CX P w) 5 T.fword_end T.dword_end ["text", "at"] (spEndX X.CB wordLen) := by
  have Grun_end : FnOk P w K mg base CX0 1 T.frun_end T.drun_end ["text", "at", "kind"] spRunEnd := ok_run_end T
  have GB : FnOk P w K mg base CX0 3 X.fB X.dB ["self", "at"] (spBt K) := ok_B T X
  refine T.Fword_end.okX (k := 4) scword_end (fun vs H Q E h => ?_) (fun cdv A outer s H vs Q E hr h => ?_)
  · obtain ⟨z, p, rfl, _⟩ := h
    rfl
  obtain ⟨z, p, rfl, hz, hp, q⟩ := h
  refine ⟨_, (pss_cons (ps_set (i := 2) scword_end.nd rfl (Or.inl rfl) (pe_call Grun_end (hr.mono (by omega)) (by rfl) T.grun_end T.Frun_end.kp T.brun_end .nil pass0 (pa_cons (pv 0) (pa_cons (pv 1) (pa_cons (pe_gc (by rfl) T.cLETTERS) pa_nil)))))
 (pss_cons (ps_if (pt_cmpR op_gt (pe_op op_sub (pv 2) (pv 1)) (pe_gc (by rfl) T.cMOST_LETTERS) (nomark _))
  (pss_one (ps_raise rfl (takes_of rfl rfl rfl rfl) (pmk_oex X.oB X.iB X.tB GB (hr.mono (by omega)) X.bB .nil pass0 (by rfl) X.gB (pa_cons (pv 1) pa_nil))))
  pss_nil)
 (pss_one (ps_ret (pv 2))))), ?_⟩
  refine ⟨_, rfl, _, rfl, z, _, p, rfl, hz, by omega, ?_⟩
  have er : run (tl "abcdefghijklmnopqrstuvwxyz") ((tl z).drop p) = run abc ((tl z).drop p) := rfl
  rw [er]
  refine ⟨_, rfl, _, rfl, _, _, rfl, rfl, _, 8, rfl, rfl, _, rfl, ite2 (fun c1 => ?_) (fun c1 => ?_)⟩
  · have c2 : (8 : Int) < ((p + run abc ((tl z).drop p) : Nat) : Int) - (p : Int) := of_decide_eq_true c1
    have e : wordLen ((tl z).drop p) = none := if_neg (by omega)
    rw [e] at q
    exact ⟨_, rfl, by show 1 ≤ 1000; decide, fun a na => ⟨a, X.CB, p, rfl, by omega, upd_same, X.oB, X.wB, X.aB, fun dx n ne => end_bt q na n ne⟩⟩
  · have c2 : ¬ (8 : Int) < ((p + run abc ((tl z).drop p) : Nat) : Int) - (p : Int) := fun z => c1 (decide_eq_true z)
    have e : wordLen ((tl z).drop p) = some (run abc ((tl z).drop p)) := if_pos (by omega)
    rw [e] at q
    exact ⟨_, rfl, q⟩
theorem one_str {c d : Nat} {z : Str} (h : (⟨#[c]⟩ : Str) = z) (e : tl z = [d]) : c = d := by
  have := congrArg tl h
  rw [e] at this
  exact (List.cons.inj (show [c] = [d] from this)).1
theorem ok_number_end (T : Tops w K mg) (X : Exx K mg) : FnOk P w K mg base (L2.CX P w) 5 T.fnumber_end T.dnumber_end ["text", "at"] (spEndX X.CB numLen) := by
  have Grun_end : FnOk P w K mg base CX0 1 T.frun_end T.drun_end ["text", "at", "kind"] spRunEnd := ok_run_end T
  have GB : FnOk P w K mg base CX0 3 X.fB X.dB ["self", "at"] (spBt K) := ok_B T X
  refine T.Fnumber_end.okX (k := 4) scnumber_end (fun vs H Q E h => ?_) (fun cdv A outer s H vs Q E hr h => ?_)
  · obtain ⟨z, p, rfl, _⟩ := h
    rfl
  obtain ⟨z, p, rfl, hz, hp, q⟩ := h
  refine ⟨_, (pss_cons (ps_set (i := 2) scnumber_end.nd rfl (Or.inl rfl) (pe_call Grun_end (hr.mono (by omega)) (by rfl) T.grun_end T.Frun_end.kp T.brun_end .nil pass0 (pa_cons (pv 0) (pa_cons (pv 1) (pa_cons (pe_gc (by rfl) T.cFIGURES) pa_nil)))))
 (pss_cut (ps_set (i := 3) scnumber_end.nd rfl (Or.inl rfl) (pe_and (pe_cmpR op_eq (pe_ix ix_str (pv 0) (pv 1) (fun _ _ => rfl)) pe_str (nomark _)) (pe_one (pe_cmpR op_gt (pe_op op_sub (pv 2) (pv 1)) pe_int (nomark _)))))
 (pss_cons (ps_if (PW.pt (pw_or (pt_val (pv 3)) (pw_or1 (pt_cmpR op_gt (pe_op op_sub (pv 2) (pv 1)) (pe_gc (by rfl) T.cMOST_NUMBER_FIGURES) (nomark _)))))
  (pss_one (ps_raise rfl (takes_of rfl rfl rfl rfl) (pmk_oex X.oB X.iB X.tB GB (hr.mono (by omega)) X.bB .nil pass0 (by rfl) X.gB (pa_cons (pv 1) pa_nil))))
  pss_nil)
 (pss_one (ps_ret (pv 2)))))), ?_⟩
  have lz := len_tl z
  have hd : (tl z).drop p = (tl z)[p] :: (tl z).drop (p + 1) := List.drop_eq_getElem_cons (by omega)
  refine ⟨_, rfl, _, rfl, z, _, p, rfl, hz, by omega, ?_⟩
  have er : run (tl "0123456789") ((tl z).drop p) = run dig ((tl z).drop p) := rfl
  rw [er]
  have hh : ((tl z).drop p).head? = some (tl z)[p] := by rw [hd]; rfl
  refine ⟨fun σ' H' => ∃ b : Bool, σ' = [some (.str z), some (.int p), some (.int ((p + run dig ((tl z).drop p) : Nat) : Int)), some (.bl b)] ∧ H' = H ∧ (b = true ↔ (((tl z).drop p).head? = some 48 ∧ 1 < run dig ((tl z).drop p))), ?_, ?_⟩
  · refine ⟨_, rfl, _, rfl, z, _, _, rfl, rfl, sz (by omega), at_head hd, rfl, _, rfl, ite2 (fun c1 => ?_) (fun c1 => ?_)⟩
    · have e0 : (tl z)[p] = 48 := one_str (V.str.inj (of_decide_eq_true c1)) (by decide +kernel)
      refine ⟨_, rfl, _, rfl, _, _, rfl, rfl, _, 1, rfl, rfl, ?_⟩
      refine ⟨decide ((1 : Int) < ((p + run dig ((tl z).drop p) : Nat) : Int) - (p : Int)), rfl, rfl, ?_⟩
      rw [decide_eq_true_eq, hh, e0]
      constructor
      · exact fun h => ⟨rfl, by omega⟩
      · exact fun h => by have := h.2; omega
    · refine ⟨false, rfl, rfl, ?_⟩
      rw [hh]
      constructor
      · exact fun h => by cases h
      · intro h
        refine absurd (decide_eq_true ?_) c1
        rw [Option.some.inj h.1]
        decide +kernel
  rintro σ' H' ⟨b, rfl, rfl, hb⟩
  have bad : ((((tl z).drop p).head? = some 48 ∧ 1 < run dig ((tl z).drop p)) ∨ 2 < run dig ((tl z).drop p)) → ∀ a, H' a = none → spBt K [.ref a, .int p] (upd H' a (exo a X.CB none)) (fun v G => v = .non ∧ ∃ (d : Addr) (fs : List (Str × V)), G a = some (exo a X.CB (some d)) ∧ G d = some (exd d fs) ∧ H' d = none ∧ E (.ref X.CB) (some d) (upd (del G a) d (.xd fs))) (fun _ _ _ => False) := fun hz2 a na => by
    have e : numLen ((tl z).drop p) = none := if_pos hz2
    rw [e] at q
    exact ⟨a, X.CB, p, rfl, by omega, upd_same, X.oB, X.wB, X.aB, fun dx n ne => end_bt q na n ne⟩
  refine ⟨_, rfl, b, rfl, ite2 (fun c1 => ?_) (fun c1 => ?_)⟩
  · exact iteT ⟨_, rfl, by show 1 ≤ 1000; decide, bad (.inl (hb.mp c1))⟩
  refine ⟨_, rfl, _, rfl, _, _, rfl, rfl, _, 2, rfl, rfl, _, rfl, ite2 (fun c2 => ?_) (fun c2 => ?_)⟩
  · have c3 : (2 : Int) < ((p + run dig ((tl z).drop p) : Nat) : Int) - (p : Int) := of_decide_eq_true c2
    exact ⟨_, rfl, by show 1 ≤ 1000; decide, bad (.inr (by omega))⟩
  · have c3 : ¬ (2 : Int) < ((p + run dig ((tl z).drop p) : Nat) : Int) - (p : Int) := fun z => c2 (decide_eq_true z)
    have e : numLen ((tl z).drop p) = some (run dig ((tl z).drop p)) := if_neg (fun h => h.elim (fun h => c1 (hb.mpr h)) (fun h => c3 (by omega)))
    rw [e] at q
    exact ⟨_, rfl, q⟩
theorem sg_word {c : Nat} {r : List Nat} (h : c ∈ abc) : sgLen (c :: r) = wordLen (c :: r) := by
  rw [sg_cons, if_pos h]
  rfl
theorem sg_num {c : Nat} {r : List Nat} (h : c ∉ abc) (k : c ∈ dig) : sgLen (c :: r) = numLen (c :: r) := by
  rw [sg_cons, if_neg h, if_pos k]
  unfold numLen
  by_cases e : c = 48
  · subst e
    have e1 : ((48 :: r).head? = some 48) = True := by simp
    simp only [e1, true_and]
  · by_cases z : 2 < run dig (c :: r)
    · rw [if_pos (.inr z), if_pos (.inr z)]
    · rw [if_neg (fun h => h.elim (fun h => e h.1) z), if_neg (fun h => h.elim (fun h => e (Option.some.inj h.1)) z)]
theorem cut_two' {z : Str} {p : Nat} (hp : p < z.length) : tl (cutS z (some (p : Int)) (some ((p : Int) + 2))) = ((tl z).drop p).take 2 := by
  have lz := len_tl z
  have e2 : ((p : Int) + 2) = ((p + 2 : Nat) : Int) := by omega
  unfold cutS
  rw [e2, HT.sIx_nat, HT.sIx_nat, Nat.min_eq_left (show p ≤ z.length by omega), tl_S]
  show ((tl z).drop p).take (min (p + 2) z.length - p) = _
  by_cases h : p + 2 ≤ z.length
  · rw [Nat.min_eq_left h, Nat.add_sub_cancel_left]
  · rw [Nat.min_eq_right (by omega), List.take_of_length_le (by rw [List.length_drop]; omega), List.take_of_length_le (by rw [List.length_drop]; omega)]
theorem le_cut {z : Str} {p : Nat} (hp : p < z.length) {c : Nat} {r : List Nat} (hd : (tl z).drop p = c :: r) : cutS z (some (p : Int)) (some ((p : Int) + 2)) = "<=" ↔ (c = 60 ∧ r.head? = some 61) := by
  have e := cut_two' hp
  rw [hd] at e
  have e2 : tl ("<=" : Str) = [60, 61] := by decide +kernel
  constructor
  · intro h
    rw [h, e2] at e
    cases r with
    | nil => simp at e
    | cons d s =>
      have e3 : [60, 61] = [c, d] := e
      obtain ⟨h1, h2⟩ := List.cons.inj e3
      exact ⟨h1.symm, congrArg some (List.cons.inj h2).1.symm⟩
  · rintro ⟨rfl, h⟩
    cases r with
    | nil => cases h
    | cons d s =>
      obtain rfl : d = 61 := Option.some.inj h
      refine str_ext ?_
      rw [e, e2]
      rfl
theorem ok_sign_end (T : Tops w K mg) (X : Exx K mg) : FnOk P w K mg base (L2.CX P w) 6 T.fsign_end T.dsign_end ["text", "at"] (spEndX X.CB sgLen) := by
  have Gword_end : FnOk P w K mg base (L2.CX P w) 5 T.fword_end T.dword_end ["text", "at"] (spEndX X.CB wordLen) := ok_word_end T X
  have Gnumber_end : FnOk P w K mg base (L2.CX P w) 5 T.fnumber_end T.dnumber_end ["text", "at"] (spEndX X.CB numLen) := ok_number_end T X
  have GB : FnOk P w K mg base CX0 3 X.fB X.dB ["self", "at"] (spBt K) := ok_B T X
  refine T.Fsign_end.okX (k := 5) scsign_end (fun vs H Q E h => ?_) (fun cdv A outer s H vs Q E hr h => ?_)
  · obtain ⟨z, p, rfl, _⟩ := h
    rfl
  obtain ⟨z, p, rfl, hz, hp, q⟩ := h
  refine ⟨_, (pss_cons (ps_if (pt_cmpR op_in_sign (pe_ix ix_str (pv 0) (pv 1) (fun _ _ => rfl)) (pe_gc (by rfl) T.cLETTERS) (by rfl))
  (pss_one (ps_ret (pe_call Gword_end (hr.mono (by omega)) (by rfl) T.gword_end T.Fword_end.kp T.bword_end .nil (passes_call (takes_of rfl rfl rfl rfl) (fun _ _ _ _ h => h)) (pa_cons (pv 0) (pa_cons (pv 1) pa_nil)))))
  pss_nil)
 (pss_cons (ps_if (pt_cmpR op_in_sign (pe_ix ix_str (pv 0) (pv 1) (fun _ _ => rfl)) (pe_gc (by rfl) T.cFIGURES) (by rfl))
  (pss_one (ps_ret (pe_call Gnumber_end (hr.mono (by omega)) (by rfl) T.gnumber_end T.Fnumber_end.kp T.bnumber_end .nil (passes_call (takes_of rfl rfl rfl rfl) (fun _ _ _ _ h => h)) (pa_cons (pv 0) (pa_cons (pv 1) pa_nil)))))
  pss_nil)
 (pss_cons (ps_if (pt_cmpR op_in_sign (pe_ix ix_str (pv 0) (pv 1) (fun _ _ => rfl)) (pe_gc (by rfl) T.cSINGLE_SIGNS) (by rfl))
  (pss_one (ps_ret (pe_op op_add (pv 1) pe_int)))
  pss_nil)
 (pss_cons (ps_if (pt_cmpR op_eq (pe_slice sl_str (pv 0) (po_some (pv 1)) (po_some (pe_op op_add (pv 1) pe_int))) pe_str (nomark _))
  (pss_one (ps_ret (pe_op op_add (pv 1) pe_int)))
  pss_nil)
 (pss_one (ps_raise rfl (takes_of rfl rfl rfl rfl) (pmk_oex X.oB X.iB X.tB GB (hr.mono (by omega)) X.bB .nil pass0 (by rfl) X.gB (pa_cons (pv 1) pa_nil)))))))), ?_⟩
  have lz := len_tl z
  obtain ⟨c0, r0, hd⟩ : ∃ c0 r0, (tl z).drop p = c0 :: r0 := ⟨_, _, List.drop_eq_getElem_cons (by omega : p < (tl z).length)⟩
  refine ⟨_, rfl, _, rfl, z, _, c0, rfl, rfl, sz (by omega), at_head hd, c0, _, rfl, rfl, _, rfl, ite2 (fun c1 => ?_) (fun c1 => ?_)⟩
  · have k1 : c0 ∈ abc := of_decide_eq_true c1
    rw [hd, sg_word k1, ← hd] at q
    exact ⟨_, rfl, _, rfl, z, p, rfl, hz, hp, q⟩
  have n1 : c0 ∉ abc := fun z => c1 (decide_eq_true z)
  refine ⟨_, rfl, _, rfl, z, _, c0, rfl, rfl, sz (by omega), at_head hd, c0, _, rfl, rfl, _, rfl, ite2 (fun c2 => ?_) (fun c2 => ?_)⟩
  · have k1 : c0 ∈ dig := of_decide_eq_true c2
    rw [hd, sg_num n1 k1, ← hd] at q
    exact ⟨_, rfl, _, rfl, z, p, rfl, hz, hp, q⟩
  have n2 : c0 ∉ dig := fun z => c2 (decide_eq_true z)
  refine ⟨_, rfl, _, rfl, z, _, c0, rfl, rfl, sz (by omega), at_head hd, c0, _, rfl, rfl, _, rfl, ite2 (fun c3 => ?_) (fun c3 => ?_)⟩
  · have k1 : c0 ∈ one5 := of_decide_eq_true c3
    rw [hd, sg_cons, if_neg n1, if_neg n2, if_pos k1] at q
    exact ⟨_, rfl, _, 1, rfl, rfl, q⟩
  have n3 : c0 ∉ one5 := fun z => c3 (decide_eq_true z)
  rw [hd, sg_cons, if_neg n1, if_neg n2, if_neg n3] at q
  refine ⟨_, rfl, _, rfl, _, rfl, _, rfl, _, 2, rfl, rfl, _, rfl, z, rfl, sz (by omega), ?_⟩
  refine ⟨rfl, _, rfl, ite2 (fun c4 => ?_) (fun c4 => ?_)⟩
  · have e4 := (le_cut hp hd).mp (V.str.inj (of_decide_eq_true c4))
    rw [if_pos e4] at q
    exact ⟨_, rfl, _, 2, rfl, rfl, q⟩
  · have e4 : ¬ (c0 = 60 ∧ r0.head? = some 61) := fun h => c4 (decide_eq_true (congrArg V.str ((le_cut hp hd).mpr h)))
    rw [if_neg e4] at q
    exact ⟨_, rfl, by show 1 ≤ 1000; decide, fun a na => ⟨a, X.CB, p, rfl, by omega, upd_same, X.oB, X.wB, X.aB, fun dx n ne => end_bt q na n ne⟩⟩
theorem sgp_snoc {H H' : Hp} {a t : Addr} {s : Sgs} {svs : List V} {x : Str × Nat} (h2 : svs.length = s.length) (h3 : ∀ (i : Nat) y, s[i]? = some y → ∃ b, svs[i]? = some (.ref b) ∧ H b = some (.tup [.str y.1, .int y.2]))
    (st : Imm H H') (ha : H' a = some (.lst (svs ++ [.ref t]))) (ht : H' t = some (.tup [.str x.1, .int x.2])) : SgP H' a (s ++ [x]) := by
  refine ⟨svs ++ [.ref t], ha, by rw [List.length_append, List.length_append, h2]; rfl, fun i y hy => ?_⟩
  by_cases hi : i < s.length
  · rw [List.getElem?_append_left hi] at hy
    obtain ⟨b, j1, j2⟩ := h3 i y hy
    exact ⟨b, by rw [List.getElem?_append_left (by rw [h2]; exact hi)]; exact j1, st _ _ j2⟩
  · have hi2 : i = s.length := by
      have := (List.getElem?_eq_some_iff.mp hy).1
      rw [List.length_append] at this
      have : i < s.length + 1 := this
      omega
    subst hi2
    rw [List.getElem?_append_right (Nat.le_refl _), Nat.sub_self] at hy
    have : x = y := Option.some.inj hy
    subst this
    refine ⟨t, ?_, ht⟩
    rw [List.getElem?_append_right (by rw [h2]; exact Nat.le_refl _), h2, Nat.sub_self]
    rfl
theorem cut_take {z : Str} {p k : Nat} (hk : p + k ≤ z.length) : cutS z (some (p : Int)) (some ((p + k : Nat) : Int)) = S (((tl z).drop p).take k) := by
  have hz := len_tl z
  unfold cutS
  rw [HT.sIx_nat, HT.sIx_nat, Nat.min_eq_left (by omega), Nat.min_eq_left (by omega), Nat.add_sub_cancel_left]
theorem ok_signs_of (T : Tops w K mg) (X : Exx K mg) : FnOk P w K mg base (L2.CX P w) 7 T.fsigns_of T.dsigns_of ["text"] (spSignsX X.CB) := by
  have Gsign_end : FnOk P w K mg base (L2.CX P w) 6 T.fsign_end T.dsign_end ["text", "at"] (spEndX X.CB sgLen) := ok_sign_end T X
  refine T.Fsigns_of.okX (k := 6) scsigns_of (fun vs H Q E h => ?_) (fun cdv A outer s H vs Q E hr h => ?_)
  · obtain ⟨z, rfl, _⟩ := h
    rfl
  obtain ⟨z, rfl, hz, q⟩ := h
  refine ⟨_, (pss_cons (ps_set (i := 1) scsigns_of.nd rfl (Or.inl rfl) (pe_lst pa_nil))
 (pss_cons (ps_set (i := 2) scsigns_of.nd rfl (Or.inl rfl) pe_int)
 (pss_cons (ps_while (passes_of rfl) (pt_cmpR op_lt (pv 2) (pe_callB call_len_str (by rfl) T.mlen PySem.boot_len (pa_cons (pv 0) pa_nil)) (nomark _))
  (pss_one (ps_if (pt_cmpR op_eq (pe_ix ix_str (pv 0) (pv 2) (fun _ _ => rfl)) pe_str (nomark _))
  (pss_one (ps_aug (i := 2) scsigns_of.nd rfl (Or.inl rfl) pe_int ip_add))
  (pss_cons (ps_set (i := 3) scsigns_of.nd rfl (Or.inl rfl) (pe_call Gsign_end (hr.mono (by omega)) (by rfl) T.gsign_end T.Fsign_end.kp T.bsign_end .nil (passes_call (takes_of rfl rfl rfl rfl) (fun _ _ _ _ h => h)) (pa_cons (pv 0) (pa_cons (pv 2) pa_nil))))
 (pss_cons (ps_expr (pe_bm PySem.F.plainAttrs_list PySem.F.slot_list_append PySem.F.type_list_append mt_append (pv 1) (pa_cons (pe_tup (pa_cons (pe_slice sl_str (pv 0) (po_some (pv 2)) (po_some (pv 3))) (pa_cons (pv 2) pa_nil))) pa_nil)))
 (pss_one (ps_set (i := 2) scsigns_of.nd rfl (Or.inl rfl) (pv 3))))))))
 (pss_one (ps_ret (pv 1)))))), ?_⟩
  have lz := len_tl z
  refine ⟨Nat.zero_le _, fun sg nsg => ?_⟩
  refine ⟨fun m σ H' => Same H H' ∧ ∃ (p : Nat) (dn : Sgs) (x3 : Option V), σ = [some (.str z), some (.ref sg), some (.int p), x3] ∧ p ≤ z.length ∧ m = z.length - p ∧ (lexW ((tl z).drop p) p).pre dn = lexW (tl z) 0 ∧ dn.length ≤ p ∧ SgP H' sg dn,
    ⟨z.length - 0, same_new nsg, 0, [], none, rfl, Nat.zero_le _, rfl, by rw [pre_nil, List.drop_zero], Nat.le_refl _, [], upd_same, rfl, fun i s h => by simp at h⟩, ?_⟩
  rintro m σ H1 ⟨sm, p, dn, x3, rfl, hp, rfl, hL, hdl, hsg⟩
  refine ⟨_, rfl, _, rfl, z, rfl, sz (by omega), _, _, rfl, rfl, _, rfl, ite2 (fun c1 => ?_) (fun c1 => ?_)⟩
  · have c2 : (p : Int) < (z.length : Int) := of_decide_eq_true c1
    obtain ⟨c0, r0, hd⟩ : ∃ c0 r0, (tl z).drop p = c0 :: r0 := ⟨_, _, List.drop_eq_getElem_cons (by omega : p < (tl z).length)⟩
    have hd1 : (tl z).drop (p + 1) = r0 := by
      have : (tl z).drop (p + 1) = ((tl z).drop p).drop 1 := by rw [List.drop_drop]
      rw [this, hd]
      rfl
    refine ⟨_, fun σ' H' z => z, ?_⟩
    refine ⟨_, rfl, _, rfl, z, _, c0, rfl, rfl, sz (by omega), at_head hd, rfl, _, rfl, ite2 (fun c3 => ?_) (fun c3 => ?_)⟩
    · have e0 : c0 = 32 := one_str (V.str.inj (of_decide_eq_true c3)) (by decide +kernel)
      rw [hd, e0, lex_blank, ← hd1] at hL
      refine ⟨_, rfl, _, _, rfl, rfl, ?_⟩
      exact ⟨z.length - (p + 1), by omega, sm, p + 1, dn, _, rfl, by omega, rfl, hL, by omega, hsg⟩
    · have n32 : c0 ≠ 32 := fun z => by
        refine absurd (decide_eq_true ?_) c3
        rw [z]
        decide +kernel
      refine ⟨_, rfl, _, rfl, z, p, rfl, hz, by omega, ?_⟩
      cases hk : sgLen ((tl z).drop p) with
      | none =>
        rw [hd] at hk
        rw [hd, lex_bad n32 hk] at hL
        have hL2 : lexW (tl z) 0 = .bad p := hL.symm
        rw [hL2] at q
        exact fun dd H' s' hdd => q dd H' (sm.trans s') hdd
      | some k =>
        have kp := sgLen_pos hk
        rw [List.length_drop] at kp
        have hk2 := hk
        rw [hd] at hk2
        rw [hd, lex_sign n32 hk2 kp.1, ← hd, pre_pre] at hL
        obtain ⟨svs, k1, k2, k3⟩ := hsg
        refine ⟨_, rfl, .inl ⟨rfl, _, SqL.of k1⟩, _, rfl, _, rfl, _, rfl, _, rfl, _, rfl, z, rfl, sz (by omega), _, rfl, (by show 2 ≤ sizeLine; decide), fun t nt => ?_⟩
        have ecut := cut_take (z := z) (p := p) (k := k) (by omega)
        have st : Same H1 (upd H1 t (.tup [.str (cutS z (some (p : Int)) (some ((p + k : Nat) : Int))), .int p])) := same_new nt
        refine ⟨sg, svs, .ref t, rfl, rfl, st _ _ k1, szl (by omega), ?_⟩
        refine ⟨_, rfl, ?_⟩
        have ntsg : t ≠ sg := (ne_of_none k1 nt).symm
        have i2 : Imm H1 (upd (upd H1 t (.tup [.str (cutS z (some (p : Int)) (some ((p + k : Nat) : Int))), .int p])) sg (.lst (svs ++ [.ref t]))) := (Imm.same st).upd fun xs e => by rw [k1] at e; cases e
        refine ⟨z.length - (p + k), by omega, Same.upd_new (sm.trans st) nsg, p + k, dn ++ [(S (((tl z).drop p).take k), p)], _, rfl, by omega, rfl, ?_, by rw [List.length_append]; show dn.length + 1 ≤ p + k; omega, sgp_snoc k2 k3 i2 upd_same (by rw [upd_ne ntsg, upd_same, ecut])⟩
        have : (tl z).drop (p + k) = ((tl z).drop p).drop k := by rw [List.drop_drop]
        rw [this]
        exact hL
  · have c2 : ¬ (p : Int) < (z.length : Int) := fun z => c1 (decide_eq_true z)
    have hd : (tl z).drop p = [] := List.drop_eq_nil_of_le (by omega)
    rw [hd, lex_nil] at hL
    have hL2 : lexW (tl z) 0 = .ok (dn ++ []) := hL.symm
    rw [hL2, List.append_nil] at q
    exact ⟨_, rfl, q sg H1 sm nsg hsg⟩
end
end K05

set_option Elab.async false
set_option linter.all false
set_option maxRecDepth 100000
set_option maxHeartbeats 4000000
namespace K05
open PySem PySem.Spec PyProof.Rows L2 OG
open C8 (pss_cut pe_gc)
open OGX

section
variable {P : Program} {w : World} {K : PySem.W.Frag} {mg : Str → Option Value} {base : Heap}
theorem dec_strA {x y : Str} (h : ¬ x = y) : decide (V.str x = V.str y) = false := decide_eq_false fun z => h (V.str.inj z)
theorem ok_sign (T : Tops w K mg) : FnOk P w K mg base CX0 1 T.fReader_sign T.dReader_sign ["self"] (spSgn T.CReader) := by
  refine T.FReader_sign.ok (k := 0) scReader_sign (fun vs H Q E h => ?_) (fun cdv A outer s H vs Q E hr h => ?_)
  · obtain ⟨o, dx, a, sg, p, th, dp, rfl, _⟩ := h
    rfl
  obtain ⟨o, dx, a, sg, p, th, dp, rfl, hR, q⟩ := h
  refine ⟨_, (pss_one (ps_ret (pe_ix ix_tup (pe_ix ix_list (pe_fld (pv 0) rfl) (pe_fld (pv 0) rfl) (fun _ _ => rfl)) pe_int (fun _ _ => rfl)))), ?_⟩
  obtain ⟨svs, h1, h2, h3⟩ := hR.sl
  obtain ⟨b, e1, e2⟩ := h3 p _ (tok_at hR.lt)
  exact ⟨_, rfl, o, _, dx, _, _, rfl, hR.ob, T.clReader, T.naReader_signs, rfs_signs _ _ _ _, _, rfl, o, _, dx, _, _, rfl, hR.ob, T.clReader, T.naReader_place, rfs_place _ _ _ _, a, svs, (p : Int), _, rfl, rfl, SqL.of h1, atI_nat e1, b, _, 0, _, rfl, rfl, SqT.of e2, rfl, q⟩
theorem ok_spot (T : Tops w K mg) : FnOk P w K mg base CX0 1 T.fReader_spot T.dReader_spot ["self"] (spSpt T.CReader) := by
  refine T.FReader_spot.ok (k := 0) scReader_spot (fun vs H Q E h => ?_) (fun cdv A outer s H vs Q E hr h => ?_)
  · obtain ⟨o, dx, a, sg, p, th, dp, rfl, _⟩ := h
    rfl
  obtain ⟨o, dx, a, sg, p, th, dp, rfl, hR, q⟩ := h
  refine ⟨_, (pss_one (ps_ret (pe_ix ix_tup (pe_ix ix_list (pe_fld (pv 0) rfl) (pe_fld (pv 0) rfl) (fun _ _ => rfl)) pe_int (fun _ _ => rfl)))), ?_⟩
  obtain ⟨svs, h1, h2, h3⟩ := hR.sl
  obtain ⟨b, e1, e2⟩ := h3 p _ (tok_at hR.lt)
  exact ⟨_, rfl, o, _, dx, _, _, rfl, hR.ob, T.clReader, T.naReader_signs, rfs_signs _ _ _ _, _, rfl, o, _, dx, _, _, rfl, hR.ob, T.clReader, T.naReader_place, rfs_place _ _ _ _, a, svs, (p : Int), _, rfl, rfl, SqL.of h1, atI_nat e1, b, _, 1, _, rfl, rfl, SqT.of e2, rfl, q⟩
theorem ok_take_if (T : Tops w K mg) (X : Exx K mg) : FnOk P w K mg base (L2.CX P w) 5 T.fReader_take_if T.dReader_take_if ["self", "fits"] (spTkIf T.CReader X.CB) := by
  have GReader_sign : FnOk P w K mg base CX0 1 T.fReader_sign T.dReader_sign ["self"] (spSgn T.CReader) := ok_sign T
  have GReader_spot : FnOk P w K mg base CX0 1 T.fReader_spot T.dReader_spot ["self"] (spSpt T.CReader) := ok_spot T
  have GB : FnOk P w K mg base CX0 3 X.fB X.dB ["self", "at"] (spBt K) := ok_B T X
  refine T.FReader_take_if.okX (k := 4) scReader_take_if (fun vs H Q E h => ?_) (fun cdv A outer s H vs Q E hr h => ?_)
  · obtain ⟨o, dx, a, sg, p, th, dp, b, rfl, _⟩ := h
    rfl
  obtain ⟨o, dx, a, sg, p, th, dp, b, rfl, hR, hne, q⟩ := h
  refine ⟨_, (pss_cons (ps_if (pt_not (pt_val (pv 1)))
  (pss_one (ps_raise rfl (takes_of rfl rfl rfl rfl) (pmk_oex X.oB X.iB X.tB GB (hr.mono (by omega)) X.bB .nil pass0 (by rfl) X.gB (pa_cons (pe_meth0 (pv 0) T.clReader T.mtReader_spot GReader_spot (hr.mono (by omega)) T.bReader_spot .nil pass0) pa_nil))))
  pss_nil)
 (pss_cons (ps_set (i := 2) scReader_take_if.nd rfl (Or.inl rfl) (pe_meth0 (pv 0) T.clReader T.mtReader_sign GReader_sign (hr.mono (by omega)) T.bReader_sign .nil pass0))
 (pss_cons (ps_fldaug (pv 0) pe_int in_add)
 (pss_one (ps_ret (pv 2)))))), ?_⟩
  have tc := tok_cases hR.ok p
  refine ⟨_, rfl, b, rfl, ?_⟩
  cases b with
  | false =>
    have q0 : ∀ dd H', Go (· = o) H H' → H' dd = some (.xd (fldB (spot sg p))) → E (.ref X.CB) (some dd) H' := q
    exact iteT ⟨_, rfl, o, dx, _, rfl, hR.ob, rfl, o, dx, a, sg, p, th, dp, rfl, hR, by show 1 ≤ 1000; decide, fun a' na => ⟨a', X.CB, spot sg p, rfl, tc.2.1, upd_same, X.oB, X.wB, X.aB, fun dx n ne => end_bt (fun dd H' s' hd => q0 dd H' (Go.same s') hd) na n ne⟩⟩
  | true =>
    have lt := tc.2.2 (hne rfl)
    refine iteF ?_
    refine ⟨_, rfl, o, dx, _, rfl, hR.ob, rfl, o, dx, a, sg, p, th, dp, rfl, hR, ?_⟩
    refine ⟨_, rfl, o, _, dx, _, _, rfl, hR.ob, T.clReader, T.naReader_place, rfs_place _ _ _ _, _, _, rfl, rfl, dx, _, hR.ob, rfs_len _ _ _ _, ?_⟩
    have st := hR.step (p' := p + 1) (th' := th) (dp' := dp) lt
    have q0 : ∀ v H', v = .str (tok sg p) → RX H' T.CReader o dx a sg (p + 1) th dp → Go (· = o) H H' → Q v H' := q
    exact ⟨_, rfl, q0 _ _ rfl st.1 st.2⟩
theorem ok_takeW (T : Tops w K mg) (X : Exx K mg) : FnOk P w K mg base (L2.CX P w) 6 T.fReader_take T.dReader_take ["self", "wanted"] (spTkW T.CReader X.CB) := by
  have GReader_sign : FnOk P w K mg base CX0 1 T.fReader_sign T.dReader_sign ["self"] (spSgn T.CReader) := ok_sign T
  have GReader_take_if : FnOk P w K mg base (L2.CX P w) 5 T.fReader_take_if T.dReader_take_if ["self", "fits"] (spTkIf T.CReader X.CB) := ok_take_if T X
  refine T.FReader_take.okX (k := 5) scReader_take (fun vs H Q E h => ?_) (fun cdv A outer s H vs Q E hr h => ?_)
  · obtain ⟨o, dx, a, sg, p, th, dp, wd, rfl, _⟩ := h
    rfl
  obtain ⟨o, dx, a, sg, p, th, dp, wd, rfl, hR, hw, q⟩ := h
  refine ⟨_, (pss_one (ps_ret (pe_meth (pv 0) T.clReader T.mtReader_take_if GReader_take_if (hr.mono (by omega)) T.bReader_take_if .nil (passes_call (takes_of rfl rfl rfl rfl) (fun _ _ _ _ h => h)) (pa_cons (pe_cmpR op_eq (pe_meth0 (pv 0) T.clReader T.mtReader_sign GReader_sign (hr.mono (by omega)) T.bReader_sign .nil pass0) (pv 1) (nomark _)) pa_nil)))), ?_⟩
  have e : pWord sg wd p th = (if (decide (V.str (tok sg p) = V.str wd)) = true then .ok (tok sg p) (p + 1) th else .bad p) := by
    unfold pWord
    by_cases h : tok sg p = wd
    · rw [if_pos h, if_pos (decide_eq_true (congrArg V.str h)), h]
    · rw [if_neg h, if_neg (by rw [dec_strA h]; exact Bool.false_ne_true)]
  rw [e] at q
  exact ⟨_, rfl, o, dx, _, rfl, hR.ob, rfl, _, rfl, o, dx, _, rfl, hR.ob, rfl, o, dx, a, sg, p, th, dp, rfl, hR, _, rfl, rfl, o, dx, a, sg, p, th, dp, _, rfl, hR, fun h => by rw [V.str.inj (of_decide_eq_true h)]; exact hw, q⟩
theorem name_nemp {x : Str} (h : nameB x = true) : x ≠ "" := fun z => by
  rw [z] at h
  exact absurd h (by decide +kernel)
theorem ok_take_name (T : Tops w K mg) (X : Exx K mg) : FnOk P w K mg base (L2.CX P w) 6 T.fReader_take_name T.dReader_take_name ["self"] (spTkName T.CReader X.CB) := by
  have GReader_sign : FnOk P w K mg base CX0 1 T.fReader_sign T.dReader_sign ["self"] (spSgn T.CReader) := ok_sign T
  have GReader_take_if : FnOk P w K mg base (L2.CX P w) 5 T.fReader_take_if T.dReader_take_if ["self", "fits"] (spTkIf T.CReader X.CB) := ok_take_if T X
  have Gis_name : FnOk P w K mg base CX0 1 T.fis_name T.dis_name ["text"] spName := ok_is_name T
  refine T.FReader_take_name.okX (k := 5) scReader_take_name (fun vs H Q E h => ?_) (fun cdv A outer s H vs Q E hr h => ?_)
  · obtain ⟨o, dx, a, sg, p, th, dp, rfl, _⟩ := h
    rfl
  obtain ⟨o, dx, a, sg, p, th, dp, rfl, hR, _, q⟩ := h
  refine ⟨_, (pss_one (ps_ret (pe_meth (pv 0) T.clReader T.mtReader_take_if GReader_take_if (hr.mono (by omega)) T.bReader_take_if .nil (passes_call (takes_of rfl rfl rfl rfl) (fun _ _ _ _ h => h)) (pa_cons (pe_call Gis_name (hr.mono (by omega)) (by rfl) T.gis_name T.Fis_name.kp T.bis_name .nil pass0 (pa_cons (pe_meth0 (pv 0) T.clReader T.mtReader_sign GReader_sign (hr.mono (by omega)) T.bReader_sign .nil pass0) pa_nil)) pa_nil)))), ?_⟩
  have hl := (tok_cases hR.ok p).1.len
  have q0 : EndP T.CReader X.CB o dx a sg dp vS (if nameB (tok sg p) = true then .ok (tok sg p) (p + 1) th else .bad p) H Q E := q
  refine ⟨_, rfl, o, dx, _, rfl, hR.ob, rfl, _, rfl, o, dx, _, rfl, hR.ob, rfl, o, dx, a, sg, p, th, dp, rfl, hR, tok sg p, rfl, by omega, fun H1 s1 => ?_⟩
  exact ⟨o, dx, a, sg, p, th, dp, _, rfl, hR.same s1, name_nemp, EndP.to q0 (Go.same s1)⟩
theorem ok_take_number (T : Tops w K mg) (X : Exx K mg) : FnOk P w K mg base (L2.CX P w) 6 T.fReader_take_number T.dReader_take_number ["self", "least", "most"] (spTkNum T.CReader X.CB) := by
  have GReader_sign : FnOk P w K mg base CX0 1 T.fReader_sign T.dReader_sign ["self"] (spSgn T.CReader) := ok_sign T
  have GReader_take_if : FnOk P w K mg base (L2.CX P w) 5 T.fReader_take_if T.dReader_take_if ["self", "fits"] (spTkIf T.CReader X.CB) := ok_take_if T X
  refine T.FReader_take_number.okX (k := 5) scReader_take_number (fun vs H Q E h => ?_) (fun cdv A outer s H vs Q E hr h => ?_)
  · obtain ⟨o, dx, a, sg, p, th, dp, lo, hi, rfl, _⟩ := h
    rfl
  obtain ⟨o, dx, a, sg, p, th, dp, lo, hi, rfl, hR, q⟩ := h
  refine ⟨_, (pss_cons (ps_set (i := 3) scReader_take_number.nd rfl (Or.inl rfl) (pe_meth0 (pv 0) T.clReader T.mtReader_sign GReader_sign (hr.mono (by omega)) T.bReader_sign .nil pass0))
 (pss_one (ps_ret (pe_callTy call_int_str (by rfl) T.mint (by decide +kernel) (pa_cons (pe_meth (pv 0) T.clReader T.mtReader_take_if GReader_take_if (hr.mono (by omega)) T.bReader_take_if .nil (passes_call (takes_of rfl rfl rfl rfl) (fun _ _ _ _ h => h)) (pa_cons (pe_and (pe_m0 PySem.F.slot_str_isdigit PySem.F.type_str_isdigit mt_isdigit (pv 3)) (pe_one (pe_chain op_le op_le (pv 1) (pe_callTy call_int_str (by rfl) T.mint (by decide +kernel) (pa_cons (pv 3) pa_nil)) (pv 2)))) pa_nil)) pa_nil))))), ?_⟩
  have hl := (tok_cases hR.ok p).1.len
  refine ⟨_, rfl, o, dx, _, rfl, hR.ob, rfl, o, dx, a, sg, p, th, dp, rfl, hR, ?_⟩
  rcases (tok_cases hR.ok p).1.split with ⟨k, k0, k9, hn, hd, hi2, hne, _⟩ | ⟨hn, hd, _⟩
  · have ep : pNum sg lo hi p th = if lo ≤ k ∧ k ≤ hi then .ok k (p + 1) th else .bad p := by unfold pNum; rw [hn]
    rw [ep] at q
    refine ⟨_, rfl, o, dx, _, rfl, hR.ob, rfl, _, rfl, ⟨_, rfl⟩, _, rfl, rfl, trivial, _, rfl, ite2 (fun _ => ?_) (fun z => absurd hd z)⟩
    refine ⟨_, rfl, _, rfl, _, k, rfl, hi2, by omega, lo, k, rfl, rfl, _, rfl, ite2 (fun c => ?_) (fun c => ?_)⟩
    · have c1 : lo ≤ k := of_decide_eq_true c
      refine ⟨_, rfl, k, hi, rfl, rfl, ?_⟩
      refine ⟨o, dx, a, sg, p, th, dp, _, rfl, hR, fun _ => hne, ?_⟩
      by_cases c2 : k ≤ hi
      · rw [if_pos ⟨c1, c2⟩] at q
        rw [if_pos (decide_eq_true c2)]
        intro v H' hv hR' G'
        obtain rfl : v = .str (tok sg p) := hv
        exact ⟨_, k, rfl, hi2, by omega, q _ H' rfl hR' G'⟩
      · rw [if_neg (fun h => c2 h.2)] at q
        rw [if_neg (by rw [decide_eq_false c2]; exact Bool.false_ne_true)]
        exact q
    · have c1 : ¬ lo ≤ k := fun z => c (decide_eq_true z)
      rw [if_neg (fun h => c1 h.1)] at q
      exact ⟨o, dx, a, sg, p, th, dp, false, rfl, hR, fun _ => hne, q⟩
  · have ep : pNum sg lo hi p th = .bad p := by unfold pNum; rw [hn]
    rw [ep] at q
    refine ⟨_, rfl, o, dx, _, rfl, hR.ob, rfl, _, rfl, ⟨_, rfl⟩, _, rfl, rfl, trivial, _, rfl, ite2 (fun z => absurd z (by rw [hd]; exact Bool.false_ne_true)) (fun _ => ?_)⟩
    exact ⟨o, dx, a, sg, p, th, dp, false, rfl, hR, (fun z => by cases z), q⟩
theorem ok_read_end (T : Tops w K mg) (X : Exx K mg) : FnOk P w K mg base (L2.CX P w) 7 T.fread_end T.dread_end ["reader"] (spREnd T.CReader X.CB) := by
  have GReader_sign : FnOk P w K mg base CX0 1 T.fReader_sign T.dReader_sign ["self"] (spSgn T.CReader) := ok_sign T
  have GReader_take_if : FnOk P w K mg base (L2.CX P w) 5 T.fReader_take_if T.dReader_take_if ["self", "fits"] (spTkIf T.CReader X.CB) := ok_take_if T X
  have GReader_take : FnOk P w K mg base (L2.CX P w) 6 T.fReader_take T.dReader_take ["self", "wanted"] (spTkW T.CReader X.CB) := ok_takeW T X
  have GReader_take_number : FnOk P w K mg base (L2.CX P w) 6 T.fReader_take_number T.dReader_take_number ["self", "least", "most"] (spTkNum T.CReader X.CB) := ok_take_number T X
  have Gis_name : FnOk P w K mg base CX0 1 T.fis_name T.dis_name ["text"] spName := ok_is_name T
  refine T.Fread_end.okX (k := 6) scread_end (fun vs H Q E h => ?_) (fun cdv A outer s H vs Q E hr h => ?_)
  · obtain ⟨o, dx, a, sg, p, th, dp, rfl, _⟩ := h
    rfl
  obtain ⟨o, dx, a, sg, p, th, dp, rfl, hR, _, q⟩ := h
  refine ⟨_, (pss_cons (ps_if (pt_val (pe_m0 PySem.F.slot_str_isdigit PySem.F.type_str_isdigit mt_isdigit (pe_meth0 (pv 0) T.clReader T.mtReader_sign GReader_sign (hr.mono (by omega)) T.bReader_sign .nil pass0)))
  (pss_one (ps_ret (pe_tup (pa_cons pe_str (pa_cons (pe_meth (pv 0) T.clReader T.mtReader_take_number GReader_take_number (hr.mono (by omega)) T.bReader_take_number .nil (passes_call (takes_of rfl rfl rfl rfl) (fun _ _ _ _ h => h)) (pa_cons pe_int (pa_cons (pe_gc (by rfl) T.cMOST_NUMBER) pa_nil))) pa_nil)))))
  pss_nil)
 (pss_cut (ps_set (i := 1) scread_end.nd rfl (Or.inl rfl) (pe_meth (pv 0) T.clReader T.mtReader_take_if GReader_take_if (hr.mono (by omega)) T.bReader_take_if .nil (passes_call (takes_of rfl rfl rfl rfl) (fun _ _ _ _ h => h)) (pa_cons (pe_or (pe_cmpR op_eq (pe_meth0 (pv 0) T.clReader T.mtReader_sign GReader_sign (hr.mono (by omega)) T.bReader_sign .nil pass0) pe_str (nomark _)) (pe_one (pe_call Gis_name (hr.mono (by omega)) (by rfl) T.gis_name T.Fis_name.kp T.bis_name .nil pass0 (pa_cons (pe_meth0 (pv 0) T.clReader T.mtReader_sign GReader_sign (hr.mono (by omega)) T.bReader_sign .nil pass0) pa_nil)))) pa_nil)))
 (pss_cons (ps_set (i := 2) scread_end.nd rfl (Or.inl rfl) (pe_meth0 (pv 0) T.clReader T.mtReader_sign GReader_sign (hr.mono (by omega)) T.bReader_sign .nil pass0))
 (pss_cons (ps_if (pt_cmpR op_notIn_seq (pv 2) (pe_tup (pa_cons pe_str (pa_cons pe_str pa_nil))) (by rfl))
  (pss_one (ps_ret (pe_tup (pa_cons (pv 1) (pa_cons pe_int pa_nil)))))
  pss_nil)
 (pss_cons (ps_expr (pe_meth (pv 0) T.clReader T.mtReader_take GReader_take (hr.mono (by omega)) T.bReader_take .nil (passes_call (takes_of rfl rfl rfl rfl) (fun _ _ _ _ h => h)) (pa_cons (pv 2) pa_nil)))
 (pss_cons (ps_set (i := 3) scread_end.nd rfl (Or.inl rfl) (pe_meth (pv 0) T.clReader T.mtReader_take_number GReader_take_number (hr.mono (by omega)) T.bReader_take_number .nil (passes_call (takes_of rfl rfl rfl rfl) (fun _ _ _ _ h => h)) (pa_cons pe_int (pa_cons (pe_gc (by rfl) T.cMOST_NUMBER) pa_nil))))
 (pss_one (ps_ret (pe_tup (pa_cons (pv 1) (pa_cons (pe_ifExp (pt_cmpR op_eq (pv 2) pe_str (nomark _)) (pv 3) (pe_un un_neg (pv 3))) pa_nil))))))))))), ?_⟩
  have hl := (tok_cases hR.ok p).1.len
  rcases (tok_cases hR.ok p).1.split with ⟨k, k0, k9, hn, hd, hi2, hne, _⟩ | ⟨hn, hd, _⟩
  · have ep : pEnd sg p th = (pNum sg 0 99 p th).bind fun k p th => .ok (("" : Str), k) p th := by
      unfold pEnd pNum
      rw [hn]
      dsimp only
      rw [if_pos ⟨k0, k9⟩]
      rfl
    rw [ep] at q
    refine ⟨_, rfl, o, dx, _, rfl, hR.ob, rfl, o, dx, a, sg, p, th, dp, rfl, hR, ⟨_, rfl⟩, _, rfl, rfl, trivial, _, rfl, ite2 (fun _ => ?_) (fun z => absurd hd z)⟩
    refine ⟨_, rfl, o, dx, _, rfl, hR.ob, rfl, o, dx, a, sg, p, th, dp, 0, 99, rfl, hR, EndP.bind q fun k p' th' v H1 _ hv hR1 G1 q1 => ?_⟩
    obtain rfl : v = .int k := hv
    refine ⟨(by show 2 ≤ sizeLine; decide), fun p2 np => ?_⟩
    exact q1 _ _ (rp_tup upd_same (rpl_cons rfl (rpl_cons rfl rpl_nil))) (hR1.new np) ((Go.refl _ _).new np)
  refine ⟨_, rfl, o, dx, _, rfl, hR.ob, rfl, o, dx, a, sg, p, th, dp, rfl, hR, ⟨_, rfl⟩, _, rfl, rfl, trivial, _, rfl, ite2 (fun z => absurd z (by rw [hd]; exact Bool.false_ne_true)) (fun _ => ?_)⟩
  have ep : pEnd sg p th = (if tok sg p = "n" ∨ nameB (tok sg p) = true then .ok (tok sg p) (p + 1) th else .bad p : PR Str).bind fun x p1 th => if tok sg p1 = "+" ∨ tok sg p1 = "-" then (pNum sg 1 99 (p1 + 1) th).bind fun k p' th' => .ok (x, if tok sg p1 = "+" then k else -k) p' th' else .ok (x, 0) p1 th := by
    unfold pEnd
    rw [hn]
    dsimp only
    by_cases h : tok sg p = "n" ∨ nameB (tok sg p) = true
    · rw [if_pos h, if_pos h]
      rfl
    · rw [if_neg h, if_neg h]
      rfl
  rw [ep] at q
  refine ⟨fun σ' H' => ∃ x p1 th1, σ' = [some (.ref o), some (.str x), none, none] ∧ RX H' T.CReader o dx a sg p1 th1 dp ∧ EndP T.CReader X.CB o dx a sg dp vE (if tok sg p1 = "+" ∨ tok sg p1 = "-" then (pNum sg 1 99 (p1 + 1) th1).bind fun k p' th' => .ok (x, if tok sg p1 = "+" then k else -k) p' th' else .ok (x, 0) p1 th1) H' Q E, ?_, ?_⟩
  · refine ⟨_, rfl, o, dx, _, rfl, hR.ob, rfl, _, rfl, o, dx, _, rfl, hR.ob, rfl, o, dx, a, sg, p, th, dp, rfl, hR, rfl, _, rfl, ite2 (fun c1 => ?_) (fun c1 => ?_)⟩
    · have e1 : tok sg p = "n" := V.str.inj (of_decide_eq_true c1)
      rw [if_pos (.inl e1)] at q
      refine ⟨o, dx, a, sg, p, th, dp, _, rfl, hR, fun _ => by rw [e1]; decide +kernel, ?_⟩
      rw [if_pos rfl]
      refine EndP.bind q fun x p' th' v H1 e hv hR1 G1 q1 => ?_
      obtain rfl : v = .str x := hv
      exact ⟨x, p', th', rfl, hR1, q1⟩
    · have e1 : ¬ tok sg p = "n" := fun z => c1 (decide_eq_true (congrArg V.str z))
      refine ⟨_, rfl, o, dx, _, rfl, hR.ob, rfl, o, dx, a, sg, p, th, dp, rfl, hR, _, rfl, by omega, fun H1 s1 => ?_⟩
      refine ⟨o, dx, a, sg, p, th, dp, _, rfl, hR.same s1, name_nemp, ?_⟩
      have ei : (if tok sg p = "n" ∨ nameB (tok sg p) = true then .ok (tok sg p) (p + 1) th else .bad p : PR Str) = if nameB (tok sg p) = true then .ok (tok sg p) (p + 1) th else .bad p := by
        by_cases h : nameB (tok sg p) = true
        · rw [if_pos (.inr h), if_pos h]
        · rw [if_neg (fun z => z.elim e1 h), if_neg h]
      rw [ei] at q
      refine EndP.bind (EndP.to q (Go.same s1)) fun x p' th' v H2 e hv hR2 G2 q2 => ?_
      obtain rfl : v = .str x := hv
      exact ⟨x, p', th', rfl, hR2, q2⟩
  rintro σ' H1 ⟨x, p1, th1, rfl, hR1, q1⟩
  refine ⟨_, rfl, o, dx, _, rfl, hR1.ob, rfl, o, dx, a, sg, p1, th1, dp, rfl, hR1, ?_⟩
  refine ⟨_, rfl, (by show 2 ≤ sizeLine; decide), fun p2 np => ?_⟩
  have G2 := (Go.refl (· = o) H1).new (o := .tup [.str "+", .str "-"]) np
  have hR2 := hR1.new (u := .tup [.str "+", .str "-"]) np
  refine ⟨p2, _, rfl, .inr (SqT.of upd_same), rfl, rfl, _, rfl, ite2 (fun c => ?_) (fun c => ?_)⟩
  · have c1 : (!inV (.str (tok sg p1)) ((["+", "-"] : List Str).map V.str)) = true := c
    rw [inV_str] at c1
    have hin : ¬ (tok sg p1 = "+" ∨ tok sg p1 = "-") := fun z => by
      have : tok sg p1 ∈ (["+", "-"] : List Str) := by
        simp only [List.mem_cons, List.not_mem_nil, or_false]
        exact z
      rw [decide_eq_true this] at c1
      cases c1
    rw [if_neg hin] at q1
    refine ⟨_, rfl, (by show 2 ≤ sizeLine; decide), fun p3 np3 => ?_⟩
    exact q1 _ _ (rp_tup upd_same (rpl_cons rfl (rpl_cons rfl rpl_nil))) (hR2.new np3) (G2.new np3)
  · have c1 : (!inV (.str (tok sg p1)) ((["+", "-"] : List Str).map V.str)) = false := Bool.eq_false_iff.mpr c
    rw [inV_str] at c1
    have hin : tok sg p1 = "+" ∨ tok sg p1 = "-" := by
      by_cases z : tok sg p1 ∈ (["+", "-"] : List Str)
      · simpa only [List.mem_cons, List.not_mem_nil, or_false] using z
      · rw [decide_eq_false z] at c1
        cases c1
    rw [if_pos hin] at q1
    have hne : tok sg p1 ≠ "" := by
      rcases hin with z | z <;> (rw [z]; decide +kernel)
    have q2 := EndP.to q1 G2
    refine ⟨_, rfl, o, dx, _, rfl, hR2.ob, rfl, _, rfl, o, dx, a, sg, p1, th1, dp, _, rfl, hR2, hne, ?_⟩
    rw [show pWord sg (tok sg p1) p1 th1 = .ok (tok sg p1) (p1 + 1) th1 from if_pos rfl]
    intro v3 H3 hv3 hR3 G3
    refine ⟨_, rfl, o, dx, _, rfl, hR3.ob, rfl, o, dx, a, sg, p1 + 1, th1, dp, 1, 99, rfl, hR3, EndP.bind (EndP.to q2 G3) fun k p' th' v H4 _ hv hR4 G4 q4 => ?_⟩
    obtain rfl : v = .int k := hv
    by_cases hs : tok sg p1 = "+"
    · rw [if_pos hs] at q4
      refine ⟨_, rfl, _, rfl, rfl, _, rfl, ite2 (fun _ => ?_) (fun z => absurd (decide_eq_true (congrArg V.str hs)) z)⟩
      refine ⟨_, rfl, (by show 2 ≤ sizeLine; decide), fun p3 np3 => ?_⟩
      exact q4 _ _ (rp_tup upd_same (rpl_cons rfl (rpl_cons rfl rpl_nil))) (hR4.new np3) ((Go.refl _ _).new np3)
    · rw [if_neg hs] at q4
      refine ⟨_, rfl, _, rfl, rfl, _, rfl, ite2 (fun z => absurd (V.str.inj (of_decide_eq_true z)) hs) (fun _ => ?_)⟩
      refine ⟨_, rfl, k, rfl, (by show 2 ≤ sizeLine; decide), fun p3 np3 => ?_⟩
      exact q4 _ _ (rp_tup upd_same (rpl_cons rfl (rpl_cons rfl rpl_nil))) (hR4.new np3) ((Go.refl _ _).new np3)
theorem ok_read_step (T : Tops w K mg) (X : Exx K mg) (n : Nat) : FnOk P w K mg base (L2.CX P w) (4 * n + 8+1) T.fread_step T.dread_step ["reader"] (spRRest T.CReader X.CB n (fun sg _ => pStep sg)) := by
  have GReader_take_number : FnOk P w K mg base (L2.CX P w) 6 T.fReader_take_number T.dReader_take_number ["self", "least", "most"] (spTkNum T.CReader X.CB) := ok_take_number T X
  refine T.Fread_step.okX (k := 4 * n + 8) scread_step (fun vs H Q E h => ?_) (fun cdv A outer s H vs Q E hr h => ?_)
  · obtain ⟨o, dx, a, sg, p, th, dp, rfl, _⟩ := h
    rfl
  obtain ⟨o, dx, a, sg, p, th, dp, rfl, hR, hdp, q⟩ := h
  refine ⟨_, (pss_one (ps_ret (pe_tup (pa_cons pe_str (pa_cons (pe_meth (pv 0) T.clReader T.mtReader_take_number GReader_take_number (hr.mono (by omega)) T.bReader_take_number .nil (passes_call (takes_of rfl rfl rfl rfl) (fun _ _ _ _ h => h)) (pa_cons pe_int (pa_cons (pe_gc (by rfl) T.cMOST_NUMBER) pa_nil))) pa_nil))))), ?_⟩
  have q0 : EndP T.CReader X.CB o dx a sg dp vT ((pNum sg 0 99 p th).bind fun k p th => .ok (.step k) p th) H Q E := q
  refine ⟨_, rfl, o, dx, _, rfl, hR.ob, rfl, o, dx, a, sg, p, th, dp, 0, 99, rfl, hR, EndP.bind q0 fun k p1 th1 v1 H1 _ hv1 hR1 G1 q1 => ?_⟩
  obtain rfl : v1 = .int k := hv1
  refine ⟨(by show 2 ≤ sizeLine; decide), fun pn np => ?_⟩
  exact q1 _ _ (rp_tup upd_same (rpl_cons rfl (rpl_cons rfl rpl_nil))) (hR1.new np) ((Go.refl _ _).new np)
theorem ok_read_again (T : Tops w K mg) (X : Exx K mg) (n : Nat) : FnOk P w K mg base (L2.CX P w) (4 * n + 8+1) T.fread_again T.dread_again ["reader"] (spRRest T.CReader X.CB n (fun sg _ => pAgain sg)) := by
  have GReader_sign : FnOk P w K mg base CX0 1 T.fReader_sign T.dReader_sign ["self"] (spSgn T.CReader) := ok_sign T
  have GReader_take_if : FnOk P w K mg base (L2.CX P w) 5 T.fReader_take_if T.dReader_take_if ["self", "fits"] (spTkIf T.CReader X.CB) := ok_take_if T X
  have GReader_take : FnOk P w K mg base (L2.CX P w) 6 T.fReader_take T.dReader_take ["self", "wanted"] (spTkW T.CReader X.CB) := ok_takeW T X
  have GReader_take_number : FnOk P w K mg base (L2.CX P w) 6 T.fReader_take_number T.dReader_take_number ["self", "least", "most"] (spTkNum T.CReader X.CB) := ok_take_number T X
  refine T.Fread_again.okX (k := 4 * n + 8) scread_again (fun vs H Q E h => ?_) (fun cdv A outer s H vs Q E hr h => ?_)
  · obtain ⟨o, dx, a, sg, p, th, dp, rfl, _⟩ := h
    rfl
  obtain ⟨o, dx, a, sg, p, th, dp, rfl, hR, hdp, q⟩ := h
  refine ⟨_, (pss_cons (ps_set (i := 1) scread_again.nd rfl (Or.inl rfl) (pe_meth (pv 0) T.clReader T.mtReader_take_number GReader_take_number (hr.mono (by omega)) T.bReader_take_number .nil (passes_call (takes_of rfl rfl rfl rfl) (fun _ _ _ _ h => h)) (pa_cons pe_int (pa_cons (pe_gc (by rfl) T.cMOST_AGAIN) pa_nil))))
 (pss_cons (ps_expr (pe_meth (pv 0) T.clReader T.mtReader_take GReader_take (hr.mono (by omega)) T.bReader_take .nil (passes_call (takes_of rfl rfl rfl rfl) (fun _ _ _ _ h => h)) (pa_cons pe_str pa_nil)))
 (pss_cons (ps_set (i := 2) scread_again.nd rfl (Or.inl rfl) (pe_meth (pv 0) T.clReader T.mtReader_take_if GReader_take_if (hr.mono (by omega)) T.bReader_take_if .nil (passes_call (takes_of rfl rfl rfl rfl) (fun _ _ _ _ h => h)) (pa_cons (pe_cmpR op_in_seq (pe_meth0 (pv 0) T.clReader T.mtReader_sign GReader_sign (hr.mono (by omega)) T.bReader_sign .nil pass0) (pe_tup (pa_cons pe_str (pa_cons pe_str (pa_cons pe_str pa_nil)))) (by rfl)) pa_nil)))
 (pss_one (ps_ret (pe_tup (pa_cons pe_str (pa_cons (pv 1) (pa_cons (pv 2) pa_nil))))))))), ?_⟩
  have q0 : EndP T.CReader X.CB o dx a sg dp vT ((pNum sg 1 9 p th).bind fun k p th => (pWord sg "on" p th).bind fun _ p th => (pOf sg ["halves", "thirds", "less"] p th).bind fun w p th => .ok (.again k w) p th) H Q E := q
  refine ⟨_, rfl, o, dx, _, rfl, hR.ob, rfl, o, dx, a, sg, p, th, dp, 1, 9, rfl, hR, EndP.bind q0 fun k p1 th1 v1 H1 _ hv1 hR1 G1 q1 => ?_⟩
  obtain rfl : v1 = .int k := hv1
  refine ⟨_, rfl, o, dx, _, rfl, hR1.ob, rfl, o, dx, a, sg, p1, th1, dp, "on", rfl, hR1, by decide +kernel, EndP.bind q1 fun _ p2 th2 v2 H2 _ hv2 hR2 G2 q2 => ?_⟩
  refine ⟨_, rfl, o, dx, _, rfl, hR2.ob, rfl, _, rfl, o, dx, _, rfl, hR2.ob, rfl, o, dx, a, sg, p2, th2, dp, rfl, hR2, (by show 3 ≤ sizeLine; decide), fun pt npt => ?_⟩
  have s3 := same_new (o := .tup [.str "halves", .str "thirds", .str "less"]) npt
  refine ⟨pt, _, rfl, .inr (SqT.of upd_same), rfl, rfl, o, dx, a, sg, p2, th2, dp, _, rfl, hR2.same s3, ?_, ?_⟩
  · intro z hz
    have z1 : inV (.str (tok sg p2)) ((["halves", "thirds", "less"] : List Str).map V.str) = true := z
    rw [inV_str, hz] at z1
    exact absurd z1 (by decide +kernel)
  have ei : pOf sg ["halves", "thirds", "less"] p2 th2 = (if inV (.str (tok sg p2)) ((["halves", "thirds", "less"] : List Str).map V.str) = true then .ok (tok sg p2) (p2 + 1) th2 else .bad p2) := by
    unfold pOf
    rw [inV_str]
    by_cases h : tok sg p2 ∈ (["halves", "thirds", "less"] : List Str)
    · rw [if_pos h, if_pos (decide_eq_true h)]
    · rw [if_neg h, if_neg (by rw [decide_eq_false h]; exact Bool.false_ne_true)]
  rw [ei] at q2
  refine EndP.bind (EndP.to q2 (Go.same s3)) fun x p4 th4 v4 H4 _ hv4 hR4 G4 q4 => ?_
  obtain rfl : v4 = .str x := hv4
  refine ⟨_, rfl, _, rfl, (by show 3 ≤ sizeLine; decide), fun pn np => ?_⟩
  exact q4 _ _ (rp_tup upd_same (rpl_cons rfl (rpl_cons rfl (rpl_cons rfl rpl_nil)))) (hR4.new np) ((Go.refl _ _).new np)
theorem ok_read_call (T : Tops w K mg) (X : Exx K mg) (n : Nat) : FnOk P w K mg base (L2.CX P w) (4 * n + 8+1) T.fread_call T.dread_call ["reader"] (spRRest T.CReader X.CB n (fun sg _ => pCall sg)) := by
  have GReader_take : FnOk P w K mg base (L2.CX P w) 6 T.fReader_take T.dReader_take ["self", "wanted"] (spTkW T.CReader X.CB) := ok_takeW T X
  have GReader_take_name : FnOk P w K mg base (L2.CX P w) 6 T.fReader_take_name T.dReader_take_name ["self"] (spTkName T.CReader X.CB) := ok_take_name T X
  have Gread_end : FnOk P w K mg base (L2.CX P w) 7 T.fread_end T.dread_end ["reader"] (spREnd T.CReader X.CB) := ok_read_end T X
  refine T.Fread_call.okX (k := 4 * n + 8) scread_call (fun vs H Q E h => ?_) (fun cdv A outer s H vs Q E hr h => ?_)
  · obtain ⟨o, dx, a, sg, p, th, dp, rfl, _⟩ := h
    rfl
  obtain ⟨o, dx, a, sg, p, th, dp, rfl, hR, hdp, q⟩ := h
  refine ⟨_, (pss_cons (ps_set (i := 1) scread_call.nd rfl (Or.inl rfl) (pe_meth0 (pv 0) T.clReader T.mtReader_take_name GReader_take_name (hr.mono (by omega)) T.bReader_take_name .nil (passes_call (takes_of rfl rfl rfl rfl) (fun _ _ _ _ h => h))))
 (pss_cons (ps_expr (pe_meth (pv 0) T.clReader T.mtReader_take GReader_take (hr.mono (by omega)) T.bReader_take .nil (passes_call (takes_of rfl rfl rfl rfl) (fun _ _ _ _ h => h)) (pa_cons pe_str pa_nil)))
 (pss_one (ps_ret (pe_tup (pa_cons pe_str (pa_cons (pv 1) (pa_cons (pe_call Gread_end (hr.mono (by omega)) (by rfl) T.gread_end T.Fread_end.kp T.bread_end .nil (passes_call (takes_of rfl rfl rfl rfl) (fun _ _ _ _ h => h)) (pa_cons (pv 0) pa_nil)) pa_nil)))))))), ?_⟩
  have q0 : EndP T.CReader X.CB o dx a sg dp vT ((pName sg p th).bind fun x p th => (pWord sg "with" p th).bind fun _ p th => (pEnd sg p th).bind fun e p th => .ok (.call x e) p th) H Q E := q
  refine ⟨_, rfl, o, dx, _, rfl, hR.ob, rfl, o, dx, a, sg, p, th, dp, rfl, hR, trivial, EndP.bind q0 fun x p1 th1 v1 H1 _ hv1 hR1 G1 q1 => ?_⟩
  obtain rfl : v1 = .str x := hv1
  refine ⟨_, rfl, o, dx, _, rfl, hR1.ob, rfl, o, dx, a, sg, p1, th1, dp, "with", rfl, hR1, by decide +kernel, EndP.bind q1 fun _ p2 th2 v2 H2 _ hv2 hR2 G2 q2 => ?_⟩
  refine ⟨_, rfl, _, rfl, o, dx, a, sg, p2, th2, dp, rfl, hR2, trivial, EndP.bind q2 fun e p3 th3 v3 H3 _ hv3 hR3 G3 q3 => ?_⟩
  refine ⟨(by show 3 ≤ sizeLine; decide), fun pn np => ?_⟩
  exact q3 _ _ (rp_tup upd_same (rpl_cons rfl (rpl_cons rfl (rpl_cons (Rp.to hv3 (Imm.same (same_new np))) rpl_nil)))) (hR3.new np) ((Go.refl _ _).new np)
theorem ok_read_double (T : Tops w K mg) (X : Exx K mg) (n : Nat) (Gread_bracket : FnOk P w K mg base (L2.CX P w) (4 * n + 8) T.fread_bracket T.dread_bracket ["reader"] (spRBr T.CReader X.CB n)) : FnOk P w K mg base (L2.CX P w) (4 * n + 8+1) T.fread_double T.dread_double ["reader"] (spRRest T.CReader X.CB n (fun sg br => pDouble br)) := by
  refine T.Fread_double.okX (k := 4 * n + 8) scread_double (fun vs H Q E h => ?_) (fun cdv A outer s H vs Q E hr h => ?_)
  · obtain ⟨o, dx, a, sg, p, th, dp, rfl, _⟩ := h
    rfl
  obtain ⟨o, dx, a, sg, p, th, dp, rfl, hR, hdp, q⟩ := h
  refine ⟨_, (pss_one (ps_ret (pe_tup (pa_cons pe_str (pa_cons (pe_call Gread_bracket (hr.mono (by omega)) (by rfl) T.gread_bracket T.Fread_bracket.kp T.bread_bracket .nil (passes_call (takes_of rfl rfl rfl rfl) (fun _ _ _ _ h => h)) (pa_cons (pv 0) pa_nil)) pa_nil))))), ?_⟩
  have q0 : EndP T.CReader X.CB o dx a sg dp vT ((pBracket sg n p th).bind fun b p th => .ok (.twice b) p th) H Q E := q
  refine ⟨_, rfl, o, dx, a, sg, p, th, dp, rfl, hR, hdp, EndP.bind q0 fun b p1 th1 v1 H1 _ hv1 hR1 G1 q1 => ?_⟩
  refine ⟨(by show 2 ≤ sizeLine; decide), fun pn np => ?_⟩
  exact q1 _ _ (rp_tup upd_same (rpl_cons rfl (rpl_cons (Rp.to hv1 (Imm.same (same_new np))) rpl_nil))) (hR1.new np) ((Go.refl _ _).new np)
theorem ok_read_for (T : Tops w K mg) (X : Exx K mg) (n : Nat) (Gread_bracket : FnOk P w K mg base (L2.CX P w) (4 * n + 8) T.fread_bracket T.dread_bracket ["reader"] (spRBr T.CReader X.CB n)) : FnOk P w K mg base (L2.CX P w) (4 * n + 8+1) T.fread_for T.dread_for ["reader"] (spRRest T.CReader X.CB n (fun sg br => pFor sg br)) := by
  have GReader_take : FnOk P w K mg base (L2.CX P w) 6 T.fReader_take T.dReader_take ["self", "wanted"] (spTkW T.CReader X.CB) := ok_takeW T X
  have GReader_take_name : FnOk P w K mg base (L2.CX P w) 6 T.fReader_take_name T.dReader_take_name ["self"] (spTkName T.CReader X.CB) := ok_take_name T X
  have Gread_end : FnOk P w K mg base (L2.CX P w) 7 T.fread_end T.dread_end ["reader"] (spREnd T.CReader X.CB) := ok_read_end T X
  refine T.Fread_for.okX (k := 4 * n + 8) scread_for (fun vs H Q E h => ?_) (fun cdv A outer s H vs Q E hr h => ?_)
  · obtain ⟨o, dx, a, sg, p, th, dp, rfl, _⟩ := h
    rfl
  obtain ⟨o, dx, a, sg, p, th, dp, rfl, hR, hdp, q⟩ := h
  refine ⟨_, (pss_cons (ps_set (i := 1) scread_for.nd rfl (Or.inl rfl) (pe_meth0 (pv 0) T.clReader T.mtReader_take_name GReader_take_name (hr.mono (by omega)) T.bReader_take_name .nil (passes_call (takes_of rfl rfl rfl rfl) (fun _ _ _ _ h => h))))
 (pss_cons (ps_expr (pe_meth (pv 0) T.clReader T.mtReader_take GReader_take (hr.mono (by omega)) T.bReader_take .nil (passes_call (takes_of rfl rfl rfl rfl) (fun _ _ _ _ h => h)) (pa_cons pe_str pa_nil)))
 (pss_cons (ps_set (i := 2) scread_for.nd rfl (Or.inl rfl) (pe_call Gread_end (hr.mono (by omega)) (by rfl) T.gread_end T.Fread_end.kp T.bread_end .nil (passes_call (takes_of rfl rfl rfl rfl) (fun _ _ _ _ h => h)) (pa_cons (pv 0) pa_nil)))
 (pss_cons (ps_expr (pe_meth (pv 0) T.clReader T.mtReader_take GReader_take (hr.mono (by omega)) T.bReader_take .nil (passes_call (takes_of rfl rfl rfl rfl) (fun _ _ _ _ h => h)) (pa_cons pe_str pa_nil)))
 (pss_cons (ps_set (i := 3) scread_for.nd rfl (Or.inl rfl) (pe_call Gread_end (hr.mono (by omega)) (by rfl) T.gread_end T.Fread_end.kp T.bread_end .nil (passes_call (takes_of rfl rfl rfl rfl) (fun _ _ _ _ h => h)) (pa_cons (pv 0) pa_nil)))
 (pss_one (ps_ret (pe_tup (pa_cons pe_str (pa_cons (pv 1) (pa_cons (pv 2) (pa_cons (pv 3) (pa_cons (pe_call Gread_bracket (hr.mono (by omega)) (by rfl) T.gread_bracket T.Fread_bracket.kp T.bread_bracket .nil (passes_call (takes_of rfl rfl rfl rfl) (fun _ _ _ _ h => h)) (pa_cons (pv 0) pa_nil)) pa_nil))))))))))))), ?_⟩
  have q0 : EndP T.CReader X.CB o dx a sg dp vT ((pName sg p th).bind fun x p th => (pWord sg "from" p th).bind fun _ p th => (pEnd sg p th).bind fun a p th => (pWord sg "to" p th).bind fun _ p th => (pEnd sg p th).bind fun b p th => (pBracket sg n p th).bind fun c p th => .ok (.loop x a b c) p th) H Q E := q
  refine ⟨_, rfl, o, dx, _, rfl, hR.ob, rfl, o, dx, a, sg, p, th, dp, rfl, hR, trivial, EndP.bind q0 fun x p1 th1 v1 H1 _ hv1 hR1 G1 q1 => ?_⟩
  obtain rfl : v1 = .str x := hv1
  refine ⟨_, rfl, o, dx, _, rfl, hR1.ob, rfl, o, dx, a, sg, p1, th1, dp, "from", rfl, hR1, by decide +kernel, EndP.bind q1 fun _ p2 th2 v2 H2 _ hv2 hR2 G2 q2 => ?_⟩
  refine ⟨_, rfl, o, dx, a, sg, p2, th2, dp, rfl, hR2, trivial, EndP.bind q2 fun e p3 th3 v3 H3 _ hv3 hR3 G3 q3 => ?_⟩
  refine ⟨_, rfl, o, dx, _, rfl, hR3.ob, rfl, o, dx, a, sg, p3, th3, dp, "to", rfl, hR3, by decide +kernel, EndP.bind q3 fun _ p4 th4 v4 H4 _ hv4 hR4 G4 q4 => ?_⟩
  refine ⟨_, rfl, o, dx, a, sg, p4, th4, dp, rfl, hR4, trivial, EndP.bind q4 fun f p5 th5 v5 H5 _ hv5 hR5 G5 q5 => ?_⟩
  refine ⟨_, rfl, _, rfl, _, rfl, _, rfl, o, dx, a, sg, p5, th5, dp, rfl, hR5, hdp, EndP.bind q5 fun b p6 th6 v6 H6 _ hv6 hR6 G6 q6 => ?_⟩
  refine ⟨(by show 5 ≤ sizeLine; decide), fun pn np => ?_⟩
  have i6 := Imm.same (same_new (o := .tup [.str "for", .str x, v3, v5, v6]) np)
  exact q6 _ _ (rp_tup upd_same (rpl_cons rfl (rpl_cons rfl (rpl_cons (Rp.to hv3 (((G4.im.trans G5.im).trans G6.im).trans i6)) (rpl_cons (Rp.to hv5 (G6.im.trans i6)) (rpl_cons (Rp.to hv6 i6) rpl_nil)))))) (hR6.new np) ((Go.refl _ _).new np)
theorem ok_read_if (T : Tops w K mg) (X : Exx K mg) (n : Nat) (Gread_bracket : FnOk P w K mg base (L2.CX P w) (4 * n + 8) T.fread_bracket T.dread_bracket ["reader"] (spRBr T.CReader X.CB n)) : FnOk P w K mg base (L2.CX P w) (4 * n + 8+1) T.fread_if T.dread_if ["reader"] (spRRest T.CReader X.CB n (fun sg br => pIf sg br)) := by
  have GReader_sign : FnOk P w K mg base CX0 1 T.fReader_sign T.dReader_sign ["self"] (spSgn T.CReader) := ok_sign T
  have GReader_take : FnOk P w K mg base (L2.CX P w) 6 T.fReader_take T.dReader_take ["self", "wanted"] (spTkW T.CReader X.CB) := ok_takeW T X
  have Gread_end : FnOk P w K mg base (L2.CX P w) 7 T.fread_end T.dread_end ["reader"] (spREnd T.CReader X.CB) := ok_read_end T X
  refine T.Fread_if.okX (k := 4 * n + 8) scread_if (fun vs H Q E h => ?_) (fun cdv A outer s H vs Q E hr h => ?_)
  · obtain ⟨o, dx, a, sg, p, th, dp, rfl, _⟩ := h
    rfl
  obtain ⟨o, dx, a, sg, p, th, dp, rfl, hR, hdp, q⟩ := h
  refine ⟨_, (pss_cons (ps_set (i := 1) scread_if.nd rfl (Or.inl rfl) (pe_call Gread_end (hr.mono (by omega)) (by rfl) T.gread_end T.Fread_end.kp T.bread_end .nil (passes_call (takes_of rfl rfl rfl rfl) (fun _ _ _ _ h => h)) (pa_cons (pv 0) pa_nil)))
 (pss_cons (ps_expr (pe_meth (pv 0) T.clReader T.mtReader_take GReader_take (hr.mono (by omega)) T.bReader_take .nil (passes_call (takes_of rfl rfl rfl rfl) (fun _ _ _ _ h => h)) (pa_cons pe_str pa_nil)))
 (pss_cons (ps_set (i := 2) scread_if.nd rfl (Or.inl rfl) (pe_call Gread_end (hr.mono (by omega)) (by rfl) T.gread_end T.Fread_end.kp T.bread_end .nil (passes_call (takes_of rfl rfl rfl rfl) (fun _ _ _ _ h => h)) (pa_cons (pv 0) pa_nil)))
 (pss_cons (ps_set (i := 3) scread_if.nd rfl (Or.inl rfl) (pe_call Gread_bracket (hr.mono (by omega)) (by rfl) T.gread_bracket T.Fread_bracket.kp T.bread_bracket .nil (passes_call (takes_of rfl rfl rfl rfl) (fun _ _ _ _ h => h)) (pa_cons (pv 0) pa_nil)))
 (pss_cons (ps_set (i := 4) scread_if.nd rfl (Or.inl rfl) (pe_tup pa_nil))
 (pss_cut (ps_if (pt_cmpR op_eq (pe_meth0 (pv 0) T.clReader T.mtReader_sign GReader_sign (hr.mono (by omega)) T.bReader_sign .nil pass0) pe_str (nomark _))
  (pss_cons (ps_expr (pe_meth (pv 0) T.clReader T.mtReader_take GReader_take (hr.mono (by omega)) T.bReader_take .nil (passes_call (takes_of rfl rfl rfl rfl) (fun _ _ _ _ h => h)) (pa_cons pe_str pa_nil)))
 (pss_one (ps_set (i := 4) scread_if.nd rfl (Or.inl rfl) (pe_call Gread_bracket (hr.mono (by omega)) (by rfl) T.gread_bracket T.Fread_bracket.kp T.bread_bracket .nil (passes_call (takes_of rfl rfl rfl rfl) (fun _ _ _ _ h => h)) (pa_cons (pv 0) pa_nil)))))
  pss_nil)
 (pss_one (ps_ret (pe_tup (pa_cons pe_str (pa_cons (pv 1) (pa_cons (pv 2) (pa_cons (pv 3) (pa_cons (pv 4) pa_nil)))))))))))))), ?_⟩
  have q0 : EndP T.CReader X.CB o dx a sg dp vT ((pEnd sg p th).bind fun a p th => (pWord sg "<=" p th).bind fun _ p th => (pEnd sg p th).bind fun b p th => (pBracket sg n p th).bind fun c p th => (pElse sg (pBracket sg n) p th).bind fun d p th => .ok (.test a b c d) p th) H Q E := q
  refine ⟨_, rfl, o, dx, a, sg, p, th, dp, rfl, hR, trivial, EndP.bind q0 fun e p1 th1 v1 H1 _ hv1 hR1 G1 q1 => ?_⟩
  refine ⟨_, rfl, o, dx, _, rfl, hR1.ob, rfl, o, dx, a, sg, p1, th1, dp, "<=", rfl, hR1, by decide +kernel, EndP.bind q1 fun _ p2 th2 v2 H2 _ hv2 hR2 G2 q2 => ?_⟩
  refine ⟨_, rfl, o, dx, a, sg, p2, th2, dp, rfl, hR2, trivial, EndP.bind q2 fun f p3 th3 v3 H3 _ hv3 hR3 G3 q3 => ?_⟩
  refine ⟨_, rfl, o, dx, a, sg, p3, th3, dp, rfl, hR3, hdp, EndP.bind q3 fun b p4 th4 v4 H4 _ hv4 hR4 G4 q4 => ?_⟩
  refine ⟨Nat.zero_le _, fun pe npe => ?_⟩
  have s5 := same_new (o := .tup []) npe
  have hR5 := hR4.same s5
  have G5 : Go (· = o) H4 (upd H4 pe (.tup [])) := Go.same s5
  have i14 : Imm H1 H4 := (G2.im.trans G3.im).trans G4.im
  refine ⟨fun σ' H' => ∃ vy y p6 th6, σ' = [some (.ref o), some v1, some v3, some v4, some vy] ∧ Rp H' vy (.tup (encs y)) ∧ RX H' T.CReader o dx a sg p6 th6 dp ∧ Go (· = o) H4 H' ∧ EndP T.CReader X.CB o dx a sg dp vT (.ok (.test e f b y) p6 th6) H' Q E, ?_, ?_⟩
  · have q5 := EndP.to q4 G5
    refine ⟨_, rfl, o, dx, _, rfl, hR5.ob, rfl, o, dx, a, sg, p4, th4, dp, rfl, hR5, rfl, _, rfl, ite2 (fun c => ?_) (fun c => ?_)⟩
    · have ec : tok sg p4 = "else" := V.str.inj (of_decide_eq_true c)
      have ee : pElse sg (pBracket sg n) p4 th4 = pBracket sg n (p4 + 1) th4 := if_pos ec
      rw [ee] at q5
      refine ⟨_, rfl, o, dx, _, rfl, hR5.ob, rfl, o, dx, a, sg, p4, th4, dp, "else", rfl, hR5, by decide +kernel, ?_⟩
      rw [show pWord sg "else" p4 th4 = .ok "else" (p4 + 1) th4 from if_pos ec]
      intro v6 H6 hv6 hR6 G6
      refine ⟨_, rfl, o, dx, a, sg, p4 + 1, th4, dp, rfl, hR6, hdp, EndP.bind (EndP.to q5 G6) fun y p7 th7 v7 H7 _ hv7 hR7 G7 q7 => ?_⟩
      exact ⟨v7, y, p7, th7, rfl, hv7, hR7, (G5.trans G6).trans G7, q7⟩
    · have ec : ¬ tok sg p4 = "else" := fun z => c (decide_eq_true (congrArg V.str z))
      have ee : pElse sg (pBracket sg n) p4 th4 = .ok [] p4 th4 := if_neg ec
      rw [ee] at q5
      exact ⟨.ref pe, [], p4, th4, rfl, rp_tup upd_same rpl_nil, hR5, G5, q5⟩
  rintro σ' H6 ⟨vy, y, p6, th6, rfl, hvy, hR6, G6, q6⟩
  refine ⟨_, rfl, _, rfl, _, rfl, _, rfl, (by show 5 ≤ sizeLine; decide), fun pn np => ?_⟩
  have i7 := Imm.same (same_new (o := .tup [.str "if", v1, v3, v4, vy]) np)
  exact q6 _ _ (rp_tup upd_same (rpl_cons rfl (rpl_cons (Rp.to hv1 ((i14.trans G6.im).trans i7)) (rpl_cons (Rp.to hv3 ((G4.im.trans G6.im).trans i7)) (rpl_cons (Rp.to hv4 (G6.im.trans i7)) (rpl_cons (hvy.to i7) rpl_nil)))))) (hR6.new np) ((Go.refl _ _).new np)
theorem ok_read_thing (T : Tops w K mg) (X : Exx K mg) (n : Nat) (Gread_bracket : FnOk P w K mg base (L2.CX P w) (4 * n + 8) T.fread_bracket T.dread_bracket ["reader"] (spRBr T.CReader X.CB n)) : FnOk P w K mg base (L2.CX P w) (4 * n + 9 + 1) T.fread_thing T.dread_thing ["reader"] (spRThing T.CReader X.CB n) := by
  have GReader_sign : FnOk P w K mg base CX0 1 T.fReader_sign T.dReader_sign ["self"] (spSgn T.CReader) := ok_sign T
  have GReader_take_if : FnOk P w K mg base (L2.CX P w) 5 T.fReader_take_if T.dReader_take_if ["self", "fits"] (spTkIf T.CReader X.CB) := ok_take_if T X
  refine T.Fread_thing.okX (k := 4 * n + 9) scread_thing (fun vs H Q E h => ?_) (fun cdv A outer s H vs Q E hr h => ?_)
  · obtain ⟨o, dx, a, sg, p, th, dp, rfl, _⟩ := h
    rfl
  obtain ⟨o, dx, a, sg, p, th, dp, rfl, hR, hdp, q⟩ := h
  have q0 : EndP T.CReader X.CB o dx a sg dp vT (if th < 12 ∧ tok sg p ∈ kinds then pRest sg (pBracket sg n) (tok sg p) (p + 1) (th + 1) else .bad p) H Q E := q
  by_cases hth : th < 12
  · by_cases hk : tok sg p ∈ kinds
    · rw [if_pos ⟨hth, hk⟩] at q0
      have hne : tok sg p ≠ "" := fun z => by rw [z] at hk; exact absurd hk (by decide +kernel)
      have hcase : tok sg p = "step" ∨ tok sg p = "for" ∨ tok sg p = "if" ∨ tok sg p = "double" ∨ tok sg p = "call" ∨ tok sg p = "again" := by
        simpa only [kinds, List.mem_cons, List.not_mem_nil, or_false] using hk
      rcases hcase with e | e | e | e | e | e
      · have G := ok_read_step (P := P) (w := w) (base := base) T X n
        have er : pRest sg (pBracket sg n) (tok sg p) (p + 1) (th + 1) = pStep sg (p + 1) (th + 1) := by rw [e]; rfl
        rw [er] at q0
        refine ⟨_, (pss_cons (ps_set (i := 1) scread_thing.nd rfl (Or.inl rfl) (pe_meth (pv 0) T.clReader T.mtReader_take_if GReader_take_if (hr.mono (by omega)) T.bReader_take_if .nil (passes_call (takes_of rfl rfl rfl rfl) (fun _ _ _ _ h => h)) (pa_cons (pe_and (pe_cmpR op_lt (pe_fld (pv 0) rfl) (pe_gc (by rfl) T.cMOST_THINGS) (nomark _)) (pe_one (pe_cmpR (op_in_kd T.DREADERS) (pe_meth0 (pv 0) T.clReader T.mtReader_sign GReader_sign (hr.mono (by omega)) T.bReader_sign .nil pass0) (pe_gc (by rfl) T.cREADERS) (by rfl)))) pa_nil))) (pss_cons (ps_fldaug (pv 0) pe_int in_add) (pss_cons (ps_set (i := 2) scread_thing.nd rfl (Or.inl rfl) (pe_ix ix_kdict (pe_gc (by rfl) T.cREADERS) (pv 1) (fun _ _ => rfl))) (pss_one (ps_ret (pe_callL (i := 2) G (hr.mono (by omega)) rfl (Or.inl rfl) T.Fread_step.kp T.bread_step .nil (passes_call (takes_of rfl rfl rfl rfl) (fun _ _ _ _ h => h)) (pa_cons (pv 0) pa_nil))))))), ?_⟩
        refine ⟨_, rfl, o, dx, _, rfl, hR.ob, rfl, _, rfl, o, _, dx, _, _, rfl, hR.ob, T.clReader, T.naReader_things, rfs_things _ _ _ _, _, 12, rfl, rfl, _, rfl, ite2 (fun _ => ?_) (fun z => absurd (decide_eq_true (by omega)) z)⟩
        refine ⟨_, rfl, o, dx, _, rfl, hR.ob, rfl, o, dx, a, sg, p, th, dp, rfl, hR, _, _, rfl, rfl, by rw [e]; exact T.sREADERS_step, o, dx, a, sg, p, th, dp, true, rfl, hR, fun _ => hne, ?_⟩
        intro v1 H1 hv1 hR1 G1
        obtain rfl : v1 = .str (tok sg p) := hv1
        have st := hR1.step (p' := p + 1) (th' := th + 1) (dp' := dp) hR1.lt
        refine ⟨_, rfl, o, _, dx, _, _, rfl, hR1.ob, T.clReader, T.naReader_things, rfs_things _ _ _ _, _, _, rfl, rfl, dx, _, hR1.ob, rfs_len _ _ _ _, ?_⟩
        refine ⟨_, rfl, T.aREADERS, _, _, rfl, congrArg V.str e, T.kREADERS_step, ?_⟩
        exact ⟨rfl, _, rfl, o, dx, a, sg, p + 1, th + 1, dp, rfl, st.1, hdp, EndP.to q0 (G1.trans st.2)⟩
      · have G := ok_read_for (P := P) (w := w) (base := base) T X n Gread_bracket
        have er : pRest sg (pBracket sg n) (tok sg p) (p + 1) (th + 1) = pFor sg (pBracket sg n) (p + 1) (th + 1) := by rw [e]; rfl
        rw [er] at q0
        refine ⟨_, (pss_cons (ps_set (i := 1) scread_thing.nd rfl (Or.inl rfl) (pe_meth (pv 0) T.clReader T.mtReader_take_if GReader_take_if (hr.mono (by omega)) T.bReader_take_if .nil (passes_call (takes_of rfl rfl rfl rfl) (fun _ _ _ _ h => h)) (pa_cons (pe_and (pe_cmpR op_lt (pe_fld (pv 0) rfl) (pe_gc (by rfl) T.cMOST_THINGS) (nomark _)) (pe_one (pe_cmpR (op_in_kd T.DREADERS) (pe_meth0 (pv 0) T.clReader T.mtReader_sign GReader_sign (hr.mono (by omega)) T.bReader_sign .nil pass0) (pe_gc (by rfl) T.cREADERS) (by rfl)))) pa_nil))) (pss_cons (ps_fldaug (pv 0) pe_int in_add) (pss_cons (ps_set (i := 2) scread_thing.nd rfl (Or.inl rfl) (pe_ix ix_kdict (pe_gc (by rfl) T.cREADERS) (pv 1) (fun _ _ => rfl))) (pss_one (ps_ret (pe_callL (i := 2) G (hr.mono (by omega)) rfl (Or.inl rfl) T.Fread_for.kp T.bread_for .nil (passes_call (takes_of rfl rfl rfl rfl) (fun _ _ _ _ h => h)) (pa_cons (pv 0) pa_nil))))))), ?_⟩
        refine ⟨_, rfl, o, dx, _, rfl, hR.ob, rfl, _, rfl, o, _, dx, _, _, rfl, hR.ob, T.clReader, T.naReader_things, rfs_things _ _ _ _, _, 12, rfl, rfl, _, rfl, ite2 (fun _ => ?_) (fun z => absurd (decide_eq_true (by omega)) z)⟩
        refine ⟨_, rfl, o, dx, _, rfl, hR.ob, rfl, o, dx, a, sg, p, th, dp, rfl, hR, _, _, rfl, rfl, by rw [e]; exact T.sREADERS_for, o, dx, a, sg, p, th, dp, true, rfl, hR, fun _ => hne, ?_⟩
        intro v1 H1 hv1 hR1 G1
        obtain rfl : v1 = .str (tok sg p) := hv1
        have st := hR1.step (p' := p + 1) (th' := th + 1) (dp' := dp) hR1.lt
        refine ⟨_, rfl, o, _, dx, _, _, rfl, hR1.ob, T.clReader, T.naReader_things, rfs_things _ _ _ _, _, _, rfl, rfl, dx, _, hR1.ob, rfs_len _ _ _ _, ?_⟩
        refine ⟨_, rfl, T.aREADERS, _, _, rfl, congrArg V.str e, T.kREADERS_for, ?_⟩
        exact ⟨rfl, _, rfl, o, dx, a, sg, p + 1, th + 1, dp, rfl, st.1, hdp, EndP.to q0 (G1.trans st.2)⟩
      · have G := ok_read_if (P := P) (w := w) (base := base) T X n Gread_bracket
        have er : pRest sg (pBracket sg n) (tok sg p) (p + 1) (th + 1) = pIf sg (pBracket sg n) (p + 1) (th + 1) := by rw [e]; rfl
        rw [er] at q0
        refine ⟨_, (pss_cons (ps_set (i := 1) scread_thing.nd rfl (Or.inl rfl) (pe_meth (pv 0) T.clReader T.mtReader_take_if GReader_take_if (hr.mono (by omega)) T.bReader_take_if .nil (passes_call (takes_of rfl rfl rfl rfl) (fun _ _ _ _ h => h)) (pa_cons (pe_and (pe_cmpR op_lt (pe_fld (pv 0) rfl) (pe_gc (by rfl) T.cMOST_THINGS) (nomark _)) (pe_one (pe_cmpR (op_in_kd T.DREADERS) (pe_meth0 (pv 0) T.clReader T.mtReader_sign GReader_sign (hr.mono (by omega)) T.bReader_sign .nil pass0) (pe_gc (by rfl) T.cREADERS) (by rfl)))) pa_nil))) (pss_cons (ps_fldaug (pv 0) pe_int in_add) (pss_cons (ps_set (i := 2) scread_thing.nd rfl (Or.inl rfl) (pe_ix ix_kdict (pe_gc (by rfl) T.cREADERS) (pv 1) (fun _ _ => rfl))) (pss_one (ps_ret (pe_callL (i := 2) G (hr.mono (by omega)) rfl (Or.inl rfl) T.Fread_if.kp T.bread_if .nil (passes_call (takes_of rfl rfl rfl rfl) (fun _ _ _ _ h => h)) (pa_cons (pv 0) pa_nil))))))), ?_⟩
        refine ⟨_, rfl, o, dx, _, rfl, hR.ob, rfl, _, rfl, o, _, dx, _, _, rfl, hR.ob, T.clReader, T.naReader_things, rfs_things _ _ _ _, _, 12, rfl, rfl, _, rfl, ite2 (fun _ => ?_) (fun z => absurd (decide_eq_true (by omega)) z)⟩
        refine ⟨_, rfl, o, dx, _, rfl, hR.ob, rfl, o, dx, a, sg, p, th, dp, rfl, hR, _, _, rfl, rfl, by rw [e]; exact T.sREADERS_if, o, dx, a, sg, p, th, dp, true, rfl, hR, fun _ => hne, ?_⟩
        intro v1 H1 hv1 hR1 G1
        obtain rfl : v1 = .str (tok sg p) := hv1
        have st := hR1.step (p' := p + 1) (th' := th + 1) (dp' := dp) hR1.lt
        refine ⟨_, rfl, o, _, dx, _, _, rfl, hR1.ob, T.clReader, T.naReader_things, rfs_things _ _ _ _, _, _, rfl, rfl, dx, _, hR1.ob, rfs_len _ _ _ _, ?_⟩
        refine ⟨_, rfl, T.aREADERS, _, _, rfl, congrArg V.str e, T.kREADERS_if, ?_⟩
        exact ⟨rfl, _, rfl, o, dx, a, sg, p + 1, th + 1, dp, rfl, st.1, hdp, EndP.to q0 (G1.trans st.2)⟩
      · have G := ok_read_double (P := P) (w := w) (base := base) T X n Gread_bracket
        have er : pRest sg (pBracket sg n) (tok sg p) (p + 1) (th + 1) = pDouble (pBracket sg n) (p + 1) (th + 1) := by rw [e]; rfl
        rw [er] at q0
        refine ⟨_, (pss_cons (ps_set (i := 1) scread_thing.nd rfl (Or.inl rfl) (pe_meth (pv 0) T.clReader T.mtReader_take_if GReader_take_if (hr.mono (by omega)) T.bReader_take_if .nil (passes_call (takes_of rfl rfl rfl rfl) (fun _ _ _ _ h => h)) (pa_cons (pe_and (pe_cmpR op_lt (pe_fld (pv 0) rfl) (pe_gc (by rfl) T.cMOST_THINGS) (nomark _)) (pe_one (pe_cmpR (op_in_kd T.DREADERS) (pe_meth0 (pv 0) T.clReader T.mtReader_sign GReader_sign (hr.mono (by omega)) T.bReader_sign .nil pass0) (pe_gc (by rfl) T.cREADERS) (by rfl)))) pa_nil))) (pss_cons (ps_fldaug (pv 0) pe_int in_add) (pss_cons (ps_set (i := 2) scread_thing.nd rfl (Or.inl rfl) (pe_ix ix_kdict (pe_gc (by rfl) T.cREADERS) (pv 1) (fun _ _ => rfl))) (pss_one (ps_ret (pe_callL (i := 2) G (hr.mono (by omega)) rfl (Or.inl rfl) T.Fread_double.kp T.bread_double .nil (passes_call (takes_of rfl rfl rfl rfl) (fun _ _ _ _ h => h)) (pa_cons (pv 0) pa_nil))))))), ?_⟩
        refine ⟨_, rfl, o, dx, _, rfl, hR.ob, rfl, _, rfl, o, _, dx, _, _, rfl, hR.ob, T.clReader, T.naReader_things, rfs_things _ _ _ _, _, 12, rfl, rfl, _, rfl, ite2 (fun _ => ?_) (fun z => absurd (decide_eq_true (by omega)) z)⟩
        refine ⟨_, rfl, o, dx, _, rfl, hR.ob, rfl, o, dx, a, sg, p, th, dp, rfl, hR, _, _, rfl, rfl, by rw [e]; exact T.sREADERS_double, o, dx, a, sg, p, th, dp, true, rfl, hR, fun _ => hne, ?_⟩
        intro v1 H1 hv1 hR1 G1
        obtain rfl : v1 = .str (tok sg p) := hv1
        have st := hR1.step (p' := p + 1) (th' := th + 1) (dp' := dp) hR1.lt
        refine ⟨_, rfl, o, _, dx, _, _, rfl, hR1.ob, T.clReader, T.naReader_things, rfs_things _ _ _ _, _, _, rfl, rfl, dx, _, hR1.ob, rfs_len _ _ _ _, ?_⟩
        refine ⟨_, rfl, T.aREADERS, _, _, rfl, congrArg V.str e, T.kREADERS_double, ?_⟩
        exact ⟨rfl, _, rfl, o, dx, a, sg, p + 1, th + 1, dp, rfl, st.1, hdp, EndP.to q0 (G1.trans st.2)⟩
      · have G := ok_read_call (P := P) (w := w) (base := base) T X n
        have er : pRest sg (pBracket sg n) (tok sg p) (p + 1) (th + 1) = pCall sg (p + 1) (th + 1) := by rw [e]; rfl
        rw [er] at q0
        refine ⟨_, (pss_cons (ps_set (i := 1) scread_thing.nd rfl (Or.inl rfl) (pe_meth (pv 0) T.clReader T.mtReader_take_if GReader_take_if (hr.mono (by omega)) T.bReader_take_if .nil (passes_call (takes_of rfl rfl rfl rfl) (fun _ _ _ _ h => h)) (pa_cons (pe_and (pe_cmpR op_lt (pe_fld (pv 0) rfl) (pe_gc (by rfl) T.cMOST_THINGS) (nomark _)) (pe_one (pe_cmpR (op_in_kd T.DREADERS) (pe_meth0 (pv 0) T.clReader T.mtReader_sign GReader_sign (hr.mono (by omega)) T.bReader_sign .nil pass0) (pe_gc (by rfl) T.cREADERS) (by rfl)))) pa_nil))) (pss_cons (ps_fldaug (pv 0) pe_int in_add) (pss_cons (ps_set (i := 2) scread_thing.nd rfl (Or.inl rfl) (pe_ix ix_kdict (pe_gc (by rfl) T.cREADERS) (pv 1) (fun _ _ => rfl))) (pss_one (ps_ret (pe_callL (i := 2) G (hr.mono (by omega)) rfl (Or.inl rfl) T.Fread_call.kp T.bread_call .nil (passes_call (takes_of rfl rfl rfl rfl) (fun _ _ _ _ h => h)) (pa_cons (pv 0) pa_nil))))))), ?_⟩
        refine ⟨_, rfl, o, dx, _, rfl, hR.ob, rfl, _, rfl, o, _, dx, _, _, rfl, hR.ob, T.clReader, T.naReader_things, rfs_things _ _ _ _, _, 12, rfl, rfl, _, rfl, ite2 (fun _ => ?_) (fun z => absurd (decide_eq_true (by omega)) z)⟩
        refine ⟨_, rfl, o, dx, _, rfl, hR.ob, rfl, o, dx, a, sg, p, th, dp, rfl, hR, _, _, rfl, rfl, by rw [e]; exact T.sREADERS_call, o, dx, a, sg, p, th, dp, true, rfl, hR, fun _ => hne, ?_⟩
        intro v1 H1 hv1 hR1 G1
        obtain rfl : v1 = .str (tok sg p) := hv1
        have st := hR1.step (p' := p + 1) (th' := th + 1) (dp' := dp) hR1.lt
        refine ⟨_, rfl, o, _, dx, _, _, rfl, hR1.ob, T.clReader, T.naReader_things, rfs_things _ _ _ _, _, _, rfl, rfl, dx, _, hR1.ob, rfs_len _ _ _ _, ?_⟩
        refine ⟨_, rfl, T.aREADERS, _, _, rfl, congrArg V.str e, T.kREADERS_call, ?_⟩
        exact ⟨rfl, _, rfl, o, dx, a, sg, p + 1, th + 1, dp, rfl, st.1, hdp, EndP.to q0 (G1.trans st.2)⟩
      · have G := ok_read_again (P := P) (w := w) (base := base) T X n
        have er : pRest sg (pBracket sg n) (tok sg p) (p + 1) (th + 1) = pAgain sg (p + 1) (th + 1) := by rw [e]; rfl
        rw [er] at q0
        refine ⟨_, (pss_cons (ps_set (i := 1) scread_thing.nd rfl (Or.inl rfl) (pe_meth (pv 0) T.clReader T.mtReader_take_if GReader_take_if (hr.mono (by omega)) T.bReader_take_if .nil (passes_call (takes_of rfl rfl rfl rfl) (fun _ _ _ _ h => h)) (pa_cons (pe_and (pe_cmpR op_lt (pe_fld (pv 0) rfl) (pe_gc (by rfl) T.cMOST_THINGS) (nomark _)) (pe_one (pe_cmpR (op_in_kd T.DREADERS) (pe_meth0 (pv 0) T.clReader T.mtReader_sign GReader_sign (hr.mono (by omega)) T.bReader_sign .nil pass0) (pe_gc (by rfl) T.cREADERS) (by rfl)))) pa_nil))) (pss_cons (ps_fldaug (pv 0) pe_int in_add) (pss_cons (ps_set (i := 2) scread_thing.nd rfl (Or.inl rfl) (pe_ix ix_kdict (pe_gc (by rfl) T.cREADERS) (pv 1) (fun _ _ => rfl))) (pss_one (ps_ret (pe_callL (i := 2) G (hr.mono (by omega)) rfl (Or.inl rfl) T.Fread_again.kp T.bread_again .nil (passes_call (takes_of rfl rfl rfl rfl) (fun _ _ _ _ h => h)) (pa_cons (pv 0) pa_nil))))))), ?_⟩
        refine ⟨_, rfl, o, dx, _, rfl, hR.ob, rfl, _, rfl, o, _, dx, _, _, rfl, hR.ob, T.clReader, T.naReader_things, rfs_things _ _ _ _, _, 12, rfl, rfl, _, rfl, ite2 (fun _ => ?_) (fun z => absurd (decide_eq_true (by omega)) z)⟩
        refine ⟨_, rfl, o, dx, _, rfl, hR.ob, rfl, o, dx, a, sg, p, th, dp, rfl, hR, _, _, rfl, rfl, by rw [e]; exact T.sREADERS_again, o, dx, a, sg, p, th, dp, true, rfl, hR, fun _ => hne, ?_⟩
        intro v1 H1 hv1 hR1 G1
        obtain rfl : v1 = .str (tok sg p) := hv1
        have st := hR1.step (p' := p + 1) (th' := th + 1) (dp' := dp) hR1.lt
        refine ⟨_, rfl, o, _, dx, _, _, rfl, hR1.ob, T.clReader, T.naReader_things, rfs_things _ _ _ _, _, _, rfl, rfl, dx, _, hR1.ob, rfs_len _ _ _ _, ?_⟩
        refine ⟨_, rfl, T.aREADERS, _, _, rfl, congrArg V.str e, T.kREADERS_again, ?_⟩
        exact ⟨rfl, _, rfl, o, dx, a, sg, p + 1, th + 1, dp, rfl, st.1, hdp, EndP.to q0 (G1.trans st.2)⟩
    · rw [if_neg (fun h => hk h.2)] at q0
      have hnr : PySem.W.nsIn K T.aREADERS (tok sg p) = some none := by
        obtain ⟨u, e1, e2⟩ := T.cREADERS
        have e3 := X.gRd.symm.trans e1
        cases e2
        have e4 : X.aR = T.aREADERS := by injection e3 with e3; injection e3
        rw [← e4]
        exact X.nR _ hk
      have G := ok_read_step (P := P) (w := w) (base := base) T X n
      refine ⟨_, (pss_cons (ps_set (i := 1) scread_thing.nd rfl (Or.inl rfl) (pe_meth (pv 0) T.clReader T.mtReader_take_if GReader_take_if (hr.mono (by omega)) T.bReader_take_if .nil (passes_call (takes_of rfl rfl rfl rfl) (fun _ _ _ _ h => h)) (pa_cons (pe_and (pe_cmpR op_lt (pe_fld (pv 0) rfl) (pe_gc (by rfl) T.cMOST_THINGS) (nomark _)) (pe_one (pe_cmpR (op_in_kd T.DREADERS) (pe_meth0 (pv 0) T.clReader T.mtReader_sign GReader_sign (hr.mono (by omega)) T.bReader_sign .nil pass0) (pe_gc (by rfl) T.cREADERS) (by rfl)))) pa_nil))) (pss_cons (ps_fldaug (pv 0) pe_int in_add) (pss_cons (ps_set (i := 2) scread_thing.nd rfl (Or.inl rfl) (pe_ix ix_kdict (pe_gc (by rfl) T.cREADERS) (pv 1) (fun _ _ => rfl))) (pss_one (ps_ret (pe_callL (i := 2) G (hr.mono (by omega)) rfl (Or.inl rfl) T.Fread_step.kp T.bread_step .nil (passes_call (takes_of rfl rfl rfl rfl) (fun _ _ _ _ h => h)) (pa_cons (pv 0) pa_nil))))))), ?_⟩
      refine ⟨_, rfl, o, dx, _, rfl, hR.ob, rfl, _, rfl, o, _, dx, _, _, rfl, hR.ob, T.clReader, T.naReader_things, rfs_things _ _ _ _, _, 12, rfl, rfl, _, rfl, ite2 (fun _ => ?_) (fun z => absurd (decide_eq_true (by omega)) z)⟩
      refine ⟨_, rfl, o, dx, _, rfl, hR.ob, rfl, o, dx, a, sg, p, th, dp, rfl, hR, _, _, rfl, rfl, hnr, o, dx, a, sg, p, th, dp, false, rfl, hR, (fun z => by cases z), ?_⟩
      exact q0
  · rw [if_neg (fun h => hth h.1)] at q0
    have G := ok_read_step (P := P) (w := w) (base := base) T X n
    refine ⟨_, (pss_cons (ps_set (i := 1) scread_thing.nd rfl (Or.inl rfl) (pe_meth (pv 0) T.clReader T.mtReader_take_if GReader_take_if (hr.mono (by omega)) T.bReader_take_if .nil (passes_call (takes_of rfl rfl rfl rfl) (fun _ _ _ _ h => h)) (pa_cons (pe_and (pe_cmpR op_lt (pe_fld (pv 0) rfl) (pe_gc (by rfl) T.cMOST_THINGS) (nomark _)) (pe_one (pe_cmpR (op_in_kd T.DREADERS) (pe_meth0 (pv 0) T.clReader T.mtReader_sign GReader_sign (hr.mono (by omega)) T.bReader_sign .nil pass0) (pe_gc (by rfl) T.cREADERS) (by rfl)))) pa_nil))) (pss_cons (ps_fldaug (pv 0) pe_int in_add) (pss_cons (ps_set (i := 2) scread_thing.nd rfl (Or.inl rfl) (pe_ix ix_kdict (pe_gc (by rfl) T.cREADERS) (pv 1) (fun _ _ => rfl))) (pss_one (ps_ret (pe_callL (i := 2) G (hr.mono (by omega)) rfl (Or.inl rfl) T.Fread_step.kp T.bread_step .nil (passes_call (takes_of rfl rfl rfl rfl) (fun _ _ _ _ h => h)) (pa_cons (pv 0) pa_nil))))))), ?_⟩
    refine ⟨_, rfl, o, dx, _, rfl, hR.ob, rfl, _, rfl, o, _, dx, _, _, rfl, hR.ob, T.clReader, T.naReader_things, rfs_things _ _ _ _, _, 12, rfl, rfl, _, rfl, ite2 (fun z => absurd (of_decide_eq_true z) (by omega)) (fun _ => ?_)⟩
    exact ⟨o, dx, a, sg, p, th, dp, false, rfl, hR, (fun z => by cases z), q0⟩
end
end K05

set_option Elab.async false
set_option linter.all false
set_option maxRecDepth 100000
set_option maxHeartbeats 4000000
namespace K05
open PySem PySem.Spec PyProof.Rows L2 OG
open C8 (pss_cut pe_gc)
open OGX

section
variable {P : Program} {w : World} {K : PySem.W.Frag} {mg : Str → Option Value} {base : Heap}
theorem ok_read_bracket0 (T : Tops w K mg) (X : Exx K mg) : FnOk P w K mg base (L2.CX P w) (4 * 0 + 8) T.fread_bracket T.dread_bracket ["reader"] (spRBr T.CReader X.CB 0) := by
  have GReader_sign : FnOk P w K mg base CX0 1 T.fReader_sign T.dReader_sign ["self"] (spSgn T.CReader) := ok_sign T
  have GReader_take_if : FnOk P w K mg base (L2.CX P w) 5 T.fReader_take_if T.dReader_take_if ["self", "fits"] (spTkIf T.CReader X.CB) := ok_take_if T X
  have GReader_take : FnOk P w K mg base (L2.CX P w) 6 T.fReader_take T.dReader_take ["self", "wanted"] (spTkW T.CReader X.CB) := ok_takeW T X
  have Gread_body : FnOk P w K mg base (L2.CX P w) 7 T.fread_body T.dread_body ["reader"] (fun _ _ _ _ => False) := ⟨fun _ _ _ _ h => h.elim, fun _ _ _ _ _ _ _ _ _ _ _ _ _ h => h.elim⟩
  refine T.Fread_bracket.okX (k := 7) scread_bracket (fun vs H Q E h => ?_) (fun cdv A outer s H vs Q E hr h => ?_)
  · obtain ⟨o, dx, a, sg, p, th, dp, rfl, _⟩ := h
    rfl
  obtain ⟨o, dx, a, sg, p, th, dp, rfl, hR, hdp, q⟩ := h
  refine ⟨_, (pss_cons (ps_expr (pe_meth (pv 0) T.clReader T.mtReader_take_if GReader_take_if (hr.mono (by omega)) T.bReader_take_if .nil (passes_call (takes_of rfl rfl rfl rfl) (fun _ _ _ _ h => h)) (pa_cons (pe_and (pe_cmpR op_lt (pe_fld (pv 0) rfl) (pe_gc (by rfl) T.cMOST_BRACKETS) (nomark _)) (pe_one (pe_cmpR op_eq (pe_meth0 (pv 0) T.clReader T.mtReader_sign GReader_sign (hr.mono (by omega)) T.bReader_sign .nil pass0) pe_str (nomark _)))) pa_nil)))
 (pss_cons (ps_fldaug (pv 0) pe_int in_add)
 (pss_cons (ps_set (i := 1) scread_bracket.nd rfl (Or.inl rfl) (pe_call Gread_body (hr.mono (by omega)) (by rfl) T.gread_body T.Fread_body.kp T.bread_body .nil (passes_call (takes_of rfl rfl rfl rfl) (fun _ _ _ _ h => h)) (pa_cons (pv 0) pa_nil)))
 (pss_cons (ps_expr (pe_meth (pv 0) T.clReader T.mtReader_take GReader_take (hr.mono (by omega)) T.bReader_take .nil (passes_call (takes_of rfl rfl rfl rfl) (fun _ _ _ _ h => h)) (pa_cons pe_str pa_nil)))
 (pss_cons (ps_fldaug (pv 0) pe_int in_sub)
 (pss_one (ps_ret (pv 1)))))))), ?_⟩
  refine ⟨_, rfl, o, dx, _, rfl, hR.ob, rfl, _, rfl, o, _, dx, _, _, rfl, hR.ob, T.clReader, T.naReader_depth, rfs_depth _ _ _ _, _, 4, rfl, rfl, _, rfl, ite2 (fun z => absurd (of_decide_eq_true z) (by omega)) (fun _ => ?_)⟩
  exact ⟨o, dx, a, sg, p, th, dp, false, rfl, hR, (fun z => by cases z), q⟩
theorem ok_read_bracket (T : Tops w K mg) (X : Exx K mg) (n : Nat) (Gread_body : FnOk P w K mg base (L2.CX P w) (4 * n + 11) T.fread_body T.dread_body ["reader"] (spRBody T.CReader X.CB n)) : FnOk P w K mg base (L2.CX P w) (4 * n + 11 + 1) T.fread_bracket T.dread_bracket ["reader"] (spRBr T.CReader X.CB (n + 1)) := by
  have GReader_sign : FnOk P w K mg base CX0 1 T.fReader_sign T.dReader_sign ["self"] (spSgn T.CReader) := ok_sign T
  have GReader_take_if : FnOk P w K mg base (L2.CX P w) 5 T.fReader_take_if T.dReader_take_if ["self", "fits"] (spTkIf T.CReader X.CB) := ok_take_if T X
  have GReader_take : FnOk P w K mg base (L2.CX P w) 6 T.fReader_take T.dReader_take ["self", "wanted"] (spTkW T.CReader X.CB) := ok_takeW T X
  refine T.Fread_bracket.okX (k := 4 * n + 11) scread_bracket (fun vs H Q E h => ?_) (fun cdv A outer s H vs Q E hr h => ?_)
  · obtain ⟨o, dx, a, sg, p, th, dp, rfl, _⟩ := h
    rfl
  obtain ⟨o, dx, a, sg, p, th, dp, rfl, hR, hdp, q⟩ := h
  refine ⟨_, (pss_cons (ps_expr (pe_meth (pv 0) T.clReader T.mtReader_take_if GReader_take_if (hr.mono (by omega)) T.bReader_take_if .nil (passes_call (takes_of rfl rfl rfl rfl) (fun _ _ _ _ h => h)) (pa_cons (pe_and (pe_cmpR op_lt (pe_fld (pv 0) rfl) (pe_gc (by rfl) T.cMOST_BRACKETS) (nomark _)) (pe_one (pe_cmpR op_eq (pe_meth0 (pv 0) T.clReader T.mtReader_sign GReader_sign (hr.mono (by omega)) T.bReader_sign .nil pass0) pe_str (nomark _)))) pa_nil)))
 (pss_cons (ps_fldaug (pv 0) pe_int in_add)
 (pss_cons (ps_set (i := 1) scread_bracket.nd rfl (Or.inl rfl) (pe_call Gread_body (hr.mono (by omega)) (by rfl) T.gread_body T.Fread_body.kp T.bread_body .nil (passes_call (takes_of rfl rfl rfl rfl) (fun _ _ _ _ h => h)) (pa_cons (pv 0) pa_nil)))
 (pss_cons (ps_expr (pe_meth (pv 0) T.clReader T.mtReader_take GReader_take (hr.mono (by omega)) T.bReader_take .nil (passes_call (takes_of rfl rfl rfl rfl) (fun _ _ _ _ h => h)) (pa_cons pe_str pa_nil)))
 (pss_cons (ps_fldaug (pv 0) pe_int in_sub)
 (pss_one (ps_ret (pv 1)))))))), ?_⟩
  have q0 : EndP T.CReader X.CB o dx a sg dp vB ((pWord sg "(" p th).bind fun _ p th => (pBody sg (pThing sg (pBracket sg n)) p th).bind fun b p th => (pWord sg ")" p th).bind fun _ p th => .ok b p th) H Q E := q
  refine ⟨_, rfl, o, dx, _, rfl, hR.ob, rfl, _, rfl, o, _, dx, _, _, rfl, hR.ob, T.clReader, T.naReader_depth, rfs_depth _ _ _ _, _, 4, rfl, rfl, _, rfl, ite2 (fun _ => ?_) (fun z => absurd (decide_eq_true (by omega)) z)⟩
  have e : pWord sg "(" p th = (if (decide (V.str (tok sg p) = V.str "(")) = true then .ok (tok sg p) (p + 1) th else .bad p) := by
    unfold pWord
    by_cases h : tok sg p = "("
    · rw [if_pos h, if_pos (decide_eq_true (congrArg V.str h)), h]
    · rw [if_neg h, if_neg (by rw [dec_strA h]; exact Bool.false_ne_true)]
  rw [e] at q0
  refine ⟨_, rfl, o, dx, _, rfl, hR.ob, rfl, o, dx, a, sg, p, th, dp, rfl, hR, rfl, o, dx, a, sg, p, th, dp, _, rfl, hR, fun h => by rw [V.str.inj (of_decide_eq_true h)]; decide +kernel, EndP.bind q0 fun _ p1 th1 v1 H1 _ hv1 hR1 G1 q1 => ?_⟩
  have st := hR1.step (p' := p1) (th' := th1) (dp' := dp + 1) hR1.lt
  refine ⟨_, rfl, o, _, dx, _, _, rfl, hR1.ob, T.clReader, T.naReader_depth, rfs_depth _ _ _ _, _, _, rfl, rfl, dx, _, hR1.ob, rfs_len _ _ _ _, ?_⟩
  refine ⟨_, rfl, o, dx, a, sg, p1, th1, dp + 1, rfl, st.1, by show dp + 1 + n = 4; omega, EndP.bind (EndP.to q1 st.2) fun b p3 th3 v3 H3 _ hv3 hR3 G3 q3 => ?_⟩
  refine ⟨_, rfl, o, dx, _, rfl, hR3.ob, rfl, o, dx, a, sg, p3, th3, dp + 1, ")", rfl, hR3, by decide +kernel, EndP.bind q3 fun _ p4 th4 v4 H4 _ hv4 hR4 G4 q4 => ?_⟩
  refine ⟨_, rfl, o, _, dx, _, _, rfl, hR4.ob, T.clReader, T.naReader_depth, rfs_depth _ _ _ _, _, _, rfl, rfl, dx, _, hR4.ob, rfs_len _ _ _ _, ?_⟩
  have G5 : Go (· = o) H4 (upd H4 o (.ins T.CReader dx (putF "depth" (.int (((dp + 1 : Nat) : Int) - 1)) (rfs a p4 th4 (dp + 1))))) := (Go.refl _ H4).setI rfl hR4.noTup
  have hR5 : RX (upd H4 o (.ins T.CReader dx (putF "depth" (.int (((dp + 1 : Nat) : Int) - 1)) (rfs a p4 th4 (dp + 1))))) T.CReader o dx a sg p4 th4 dp := hR4.go G5 (by rw [upd_same, put_depth']) hR4.lt
  exact ⟨_, rfl, q4 v3 _ (Rp.to hv3 (G4.im.trans G5.im)) hR5 G5⟩
theorem ok_read_body (T : Tops w K mg) (X : Exx K mg) (n : Nat) (Gread_thing : FnOk P w K mg base (L2.CX P w) (4 * n + 10) T.fread_thing T.dread_thing ["reader"] (spRThing T.CReader X.CB n)) : FnOk P w K mg base (L2.CX P w) (4 * n + 10 + 1) T.fread_body T.dread_body ["reader"] (spRBody T.CReader X.CB n) := by
  have GReader_sign : FnOk P w K mg base CX0 1 T.fReader_sign T.dReader_sign ["self"] (spSgn T.CReader) := ok_sign T
  have GReader_take : FnOk P w K mg base (L2.CX P w) 6 T.fReader_take T.dReader_take ["self", "wanted"] (spTkW T.CReader X.CB) := ok_takeW T X
  refine T.Fread_body.okX (k := 4 * n + 10) scread_body (fun vs H Q E h => ?_) (fun cdv A outer s H vs Q E hr h => ?_)
  · obtain ⟨o, dx, a, sg, p, th, dp, rfl, _⟩ := h
    rfl
  obtain ⟨o, dx, a, sg, p, th, dp, rfl, hR, hdp, q⟩ := h
  refine ⟨_, (pss_cons (ps_set (i := 1) scread_body.nd rfl (Or.inl rfl) (pe_lst (pa_cons (pe_call Gread_thing (hr.mono (by omega)) (by rfl) T.gread_thing T.Fread_thing.kp T.bread_thing .nil (passes_call (takes_of rfl rfl rfl rfl) (fun _ _ _ _ h => h)) (pa_cons (pv 0) pa_nil)) pa_nil)))
 (pss_cons (ps_while (passes_of rfl) (pt_cmpR op_eq (pe_meth0 (pv 0) T.clReader T.mtReader_sign GReader_sign (hr.mono (by omega)) T.bReader_sign .nil pass0) pe_str (nomark _))
  (pss_cons (ps_expr (pe_meth (pv 0) T.clReader T.mtReader_take GReader_take (hr.mono (by omega)) T.bReader_take .nil (passes_call (takes_of rfl rfl rfl rfl) (fun _ _ _ _ h => h)) (pa_cons pe_str pa_nil)))
 (pss_one (ps_expr (pe_bm PySem.F.plainAttrs_list PySem.F.slot_list_append PySem.F.type_list_append mt_append (pv 1) (pa_cons (pe_call Gread_thing (hr.mono (by omega)) (by rfl) T.gread_thing T.Fread_thing.kp T.bread_thing .nil (passes_call (takes_of rfl rfl rfl rfl) (fun _ _ _ _ h => h)) (pa_cons (pv 0) pa_nil)) pa_nil))))))
 (pss_one (ps_ret (pe_callTy call_tuple_of (by rfl) T.mtuple (by decide +kernel) (pa_cons (pv 1) pa_nil)))))), ?_⟩
  have q0 : EndP T.CReader X.CB o dx a sg dp vB ((pThing sg (pBracket sg n) p th).bind fun t p th => pLoop sg (pThing sg (pBracket sg n)) 13 [t] p th) H Q E := q
  refine ⟨_, rfl, o, dx, a, sg, p, th, dp, rfl, hR, hdp, EndP.bind q0 fun t p1 th1 v1 H1 e1 hv1 hR1 G1 q1 => ?_⟩
  have ht1 := pThing_th (pBracket_ok n) e1
  refine ⟨(by show 1 ≤ sizeLine; decide), fun F nF => ?_⟩
  have sF := same_new (o := .lst [v1]) nF
  have nFo : F ≠ o := (ne_of_none hR1.ob nF).symm
  refine ⟨fun m σ H' => ∃ (us : List V) (ts : List Thing) (p' th' f : Nat), σ = [some (.ref o), some (.ref F)] ∧ m = 12 - th' ∧ th' ≤ 12 ∧ 12 - th' < f ∧ us.length + (12 - th') ≤ 13 ∧ H' F = some (.lst us) ∧ RpL H' us (encs ts) ∧ RX H' T.CReader o dx a sg p' th' dp ∧ a ≠ F ∧ Go (· = o) H1 H' ∧ EndP T.CReader X.CB o dx a sg dp vB (pLoop sg (pThing sg (pBracket sg n)) f ts p' th') H1 Q E,
    ⟨12 - th1, [v1], [t], p1, th1, 13, rfl, rfl, ht1.2, by omega, by show 1 + (12 - th1) ≤ 13; omega, upd_same, rpl_cons (Rp.to hv1 (Imm.same sF)) rpl_nil, hR1.same sF, ?_, Go.same sF, q1⟩, ?_⟩
  · obtain ⟨svs, h1, _⟩ := hR1.sl
    exact ne_of_none h1 nF
  rintro m σ H2 ⟨us, ts, p2, th2, f, rfl, rfl, hth2, hf, hus, hF2, hRu, hR2, naF, G02, q2⟩
  obtain ⟨f', rfl⟩ : ∃ f', f = f' + 1 := ⟨f - 1, by omega⟩
  rw [pLoop] at q2
  refine ⟨_, rfl, o, dx, _, rfl, hR2.ob, rfl, o, dx, a, sg, p2, th2, dp, rfl, hR2, rfl, _, rfl, ite2 (fun c => ?_) (fun c => ?_)⟩
  · have ec : tok sg p2 = ";" := V.str.inj (of_decide_eq_true c)
    rw [if_pos ec] at q2
    refine ⟨_, fun σ' H' z => z, ?_⟩
    refine ⟨_, rfl, o, dx, _, rfl, hR2.ob, rfl, o, dx, a, sg, p2, th2, dp, ";", rfl, hR2, by decide +kernel, ?_⟩
    rw [show pWord sg ";" p2 th2 = .ok ";" (p2 + 1) th2 from if_pos ec]
    intro v3 H3 hv3 hR3 G3
    have hF3 := G3.at hF2 nFo
    refine ⟨_, rfl, .inl ⟨rfl, _, SqL.of hF3⟩, _, rfl, o, dx, a, sg, p2 + 1, th2, dp, rfl, hR3, hdp, EndP.bind (EndP.to q2 (G02.trans G3)) fun t4 p4 th4 v4 H4 e4 hv4 hR4 G4 q4 => ?_⟩
    have ht4 := pThing_th (pBracket_ok n) e4
    have hF4 := G4.at hF3 nFo
    have lus : us.length < 100 := by omega
    refine ⟨F, us, v4, rfl, rfl, hF4, szl (by omega), ?_⟩
    have i4 : Imm H4 (upd H4 F (.lst (us ++ [v4]))) := (Imm.refl H4).upd fun xs e => by rw [hF4] at e; cases e
    have i2 : Imm H2 (upd H4 F (.lst (us ++ [v4]))) := (G3.im.trans G4.im).trans i4
    have hR5 := hR4.own (.lst (us ++ [v4])) nFo naF hF4
    refine ⟨12 - th4, by omega, us ++ [v4], ts ++ [t4], p4, th4, f', rfl, rfl, ht4.2, by omega, by rw [List.length_append]; show us.length + 1 + _ ≤ 13; omega, upd_same, ?_, hR5, naF, ((G02.trans G3).trans G4).own nF, ?_⟩
    · rw [encs_append]
      exact (hRu.to i2).append (rpl_cons (Rp.to hv4 i4) rpl_nil)
    · have e5 : pThing sg (pBracket sg n) (p2 + 1) th2 = .ok t4 p4 th4 := e4
      rw [e5] at q2
      exact q2
  · have ec : ¬ tok sg p2 = ";" := fun z => c (decide_eq_true (congrArg V.str z))
    rw [if_neg ec] at q2
    refine ⟨_, rfl, F, us, rfl, .inl ⟨SqL.of hF2, fun pn np => ?_⟩⟩
    exact q2 _ _ (rp_tup upd_same (hRu.to (Imm.same (same_new np)))) (hR2.new np) (G02.new np)
theorem ok_reading (T : Tops w K mg) (X : Exx K mg) : ∀ n : Nat, FnOk P w K mg base (L2.CX P w) (4 * n + 11) T.fread_body T.dread_body ["reader"] (spRBody T.CReader X.CB n)
  | 0 => ok_read_body T X 0 (ok_read_thing T X 0 (ok_read_bracket0 T X))
  | n + 1 => ok_read_body T X (n + 1) (ok_read_thing T X (n + 1) (ok_read_bracket T X n (ok_reading T X n)))
theorem ok_init (T : Tops w K mg) (X : Exx K mg) : FnOk P w K mg base (L2.CX P w) 8 T.fReader___init__ T.dReader___init__ ["self", "text"] (spInitX T.CReader X.CB) := by
  have Gsigns_of : FnOk P w K mg base (L2.CX P w) 7 T.fsigns_of T.dsigns_of ["text"] (spSignsX X.CB) := ok_signs_of T X
  refine T.FReader___init__.okX (k := 7) scReader___init__ (fun vs H Q E h => ?_) (fun cdv A outer s H vs Q E hr h => ?_)
  · obtain ⟨o, dx, z, rfl, _⟩ := h
    rfl
  obtain ⟨o, dx, z, rfl, ho, hz, q⟩ := h
  refine ⟨_, (pss_cons (ps_fld (pv 0) (pe_op op_cat (pe_call Gsigns_of (hr.mono (by omega)) (by rfl) T.gsigns_of T.Fsigns_of.kp T.bsigns_of .nil (passes_call (takes_of rfl rfl rfl rfl) (fun _ _ _ _ h => h)) (pa_cons (pv 1) pa_nil)) (pe_lst (pa_cons (pe_tup (pa_cons pe_str (pa_cons (pe_callB call_len_str (by rfl) T.mlen PySem.boot_len (pa_cons (pv 1) pa_nil)) pa_nil))) pa_nil))) rfl)
 (pss_cons (ps_fld (pv 0) pe_int rfl)
 (pss_cons (ps_fld (pv 0) pe_int rfl)
 (pss_one (ps_fld (pv 0) pe_int rfl))))), ?_⟩
  have lz := len_tl z
  refine ⟨_, rfl, z, rfl, hz, ?_⟩
  cases hlx : lexW (tl z) 0 with
  | bad p =>
    rw [hlx] at q
    exact q
  | ok s1 =>
  rw [hlx] at q
  intro s0 H1 sm ns0 hsg
  have ltk := lex_tk _ _ _ _ (Nat.le_refl _) hlx
  obtain ⟨svs, k1, k2, k3⟩ := hsg
  refine ⟨_, rfl, z, rfl, sz (by omega), (by show 2 ≤ sizeLine; decide), fun t nt => ?_⟩
  refine ⟨(by show 1 ≤ sizeLine; decide), fun l nl => ?_⟩
  have st : Same H1 (upd H1 t (.tup [.str "", .int (z.length : Int)])) := same_new nt
  have sl : Same (upd H1 t (.tup [.str "", .int (z.length : Int)])) (upd (upd H1 t (.tup [.str "", .int (z.length : Int)])) l (.lst [.ref t])) := same_new nl
  refine ⟨s0, l, svs, [.ref t], rfl, rfl, sl _ _ (st _ _ k1), upd_same, ?_, fun sg nsg => ?_⟩
  · rw [k2]
    show s1.length + 1 ≤ sizeLine
    exact sz (by omega)
  have sg3 : Same (upd (upd H1 t (.tup [.str "", .int (z.length : Int)])) l (.lst [.ref t])) (upd (upd (upd H1 t (.tup [.str "", .int (z.length : Int)])) l (.lst [.ref t])) sg (.lst (svs ++ [.ref t]))) := same_new nsg
  have sall : Same H (upd (upd (upd H1 t (.tup [.str "", .int (z.length : Int)])) l (.lst [.ref t])) sg (.lst (svs ++ [.ref t]))) := ((sm.trans st).trans sl).trans sg3
  have sone : Same H1 (upd (upd (upd H1 t (.tup [.str "", .int (z.length : Int)])) l (.lst [.ref t])) sg (.lst (svs ++ [.ref t]))) := (st.trans sl).trans sg3
  have ho4 := sall _ _ ho
  have nso : sg ≠ o := (ne_of_none (((sm.trans st).trans sl) _ _ ho) nsg).symm
  have nto : t ≠ sg := ne_of_none (sl _ _ upd_same) nsg
  generalize hH4 : (upd (upd (upd H1 t (.tup [.str "", .int (z.length : Int)])) l (.lst [.ref t])) sg (.lst (svs ++ [.ref t]))) = H4 at ho4 sall sone sg3
  have hsg4 : H4 sg = some (.lst (svs ++ [.ref t])) := by rw [← hH4]; exact upd_same
  have ht4 : H4 t = some (.tup [.str "", .int (z.length : Int)]) := by rw [← hH4]; exact same_new nsg _ _ (same_new nl _ _ upd_same)
  refine ⟨_, rfl, o, _, dx, [], rfl, ho4, T.clReader, T.naReader_signs, (by show 0 < 1000; decide), ?_⟩
  refine ⟨_, rfl, o, _, dx, _, rfl, upd_same, T.clReader, T.naReader_place, (by show 1 < 1000; decide), ?_⟩
  refine ⟨_, rfl, o, _, dx, _, rfl, upd_same, T.clReader, T.naReader_things, (by show 2 < 1000; decide), ?_⟩
  refine ⟨_, rfl, o, _, dx, _, rfl, upd_same, T.clReader, T.naReader_depth, (by show 3 < 1000; decide), ?_⟩
  rw [upd_upd, upd_upd, upd_upd]
  have G4 : Go (· = o) H4 (upd H4 o (.ins T.CReader dx (rfs sg 0 0 0))) := (Go.refl _ H4).setI rfl (fun xs e => by rw [ho4] at e; cases e)
  have hsgs : SgsOk (s1 ++ [(("" : Str), z.length)]) := ⟨s1, z.length, rfl, fun x hx => ⟨(ltk.1 x hx).1, (ltk.1 x hx).2.1, by have := (ltk.1 x hx).2.2; omega⟩, by omega, by omega⟩
  refine q sg _ ⟨by rw [upd_same]; rfl, sgp_snoc k2 k3 ((Imm.same sone).trans G4.im) (by rw [upd_ne nso]; exact hsg4) (G4.im _ _ ht4), hsgs, (sgs_len hsgs).1⟩ ((Go.same sall).trans G4)
theorem ok_read_plan (T : Tops w K mg) (X : Exx K mg) : FnOk P w K mg base (L2.CX P w) 28 T.fread_plan T.dread_plan ["text"] (spRPlan X.CB) := by
  have GReader_sign : FnOk P w K mg base CX0 1 T.fReader_sign T.dReader_sign ["self"] (spSgn T.CReader) := ok_sign T
  have GReader_spot : FnOk P w K mg base CX0 1 T.fReader_spot T.dReader_spot ["self"] (spSpt T.CReader) := ok_spot T
  have GB : FnOk P w K mg base CX0 3 X.fB X.dB ["self", "at"] (spBt K) := ok_B T X
  have GReader___init__ : FnOk P w K mg base (L2.CX P w) 8 T.fReader___init__ T.dReader___init__ ["self", "text"] (spInitX T.CReader X.CB) := ok_init T X
  have Gread_body : FnOk P w K mg base (L2.CX P w) 27 T.fread_body T.dread_body ["reader"] (spRBody T.CReader X.CB 4) := ok_reading T X 4
  refine T.Fread_plan.okX (k := 27) scread_plan (fun vs H Q E h => ?_) (fun cdv A outer s H vs Q E hr h => ?_)
  · obtain ⟨z, rfl, _⟩ := h
    rfl
  obtain ⟨z, rfl, hz, q⟩ := h
  refine ⟨_, (pss_cons (ps_set (i := 1) scread_plan.nd rfl (Or.inl rfl) (pe_make T.mkReader GReader___init__ (hr.mono (by omega)) (by rfl) T.gReader T.bReader___init__ .nil (passes_call (takes_of rfl rfl rfl rfl) (fun _ _ _ _ h => h)) (pa_cons (pv 0) pa_nil)))
 (pss_cons (ps_set (i := 2) scread_plan.nd rfl (Or.inl rfl) (pe_call Gread_body (hr.mono (by omega)) (by rfl) T.gread_body T.Fread_body.kp T.bread_body .nil (passes_call (takes_of rfl rfl rfl rfl) (fun _ _ _ _ h => h)) (pa_cons (pv 1) pa_nil)))
 (pss_cons (ps_if (pt_cmpR op_ne (pe_meth0 (pv 1) T.clReader T.mtReader_sign GReader_sign (hr.mono (by omega)) T.bReader_sign .nil pass0) pe_str (nomark _))
  (pss_one (ps_raise rfl (takes_of rfl rfl rfl rfl) (pmk_oex X.oB X.iB X.tB GB (hr.mono (by omega)) X.bB .nil pass0 (by rfl) X.gB (pa_cons (pe_meth0 (pv 1) T.clReader T.mtReader_spot GReader_spot (hr.mono (by omega)) T.bReader_spot .nil pass0) pa_nil))))
  pss_nil)
 (pss_one (ps_ret (pv 2)))))), ?_⟩
  refine ⟨_, rfl, fun x dx nx ndx nex => ?_⟩
  have s0 : Same H (upd (upd H dx (.own x)) x (.ins T.CReader dx [])) := fun b o e => by
    rw [upd_ne (ne_of_none e nx), upd_ne (ne_of_none e ndx)]
    exact e
  refine ⟨x, dx, z, rfl, upd_same, hz, ?_⟩
  cases hlx : lexW (tl z) 0 with
  | bad p =>
    have er : readAll z = .bad p := by unfold readAll; rw [hlx]
    rw [er] at q
    exact fun dd H' s' hdd => q dd H' (s0.trans s') hdd
  | ok s1 =>
  intro a H1 hR1 G1
  refine ⟨rfl, ?_⟩
  have keep : ∀ {H' : Hp}, Go (· = x) (upd (upd H dx (.own x)) x (.ins T.CReader dx [])) H' → Same H H' := fun {H'} g b u hb => g.sx b u (ne_of_none hb nx) (s0 b u hb)
  have er : readAll z = (match (pBody (s1 ++ [(("" : Str), z.length)]) (pThing (s1 ++ [(("" : Str), z.length)]) (pBracket (s1 ++ [(("" : Str), z.length)]) 4)) 0 0).bind (fun b p th => if tok (s1 ++ [(("" : Str), z.length)]) p = "" then PR.ok b p th else .bad p) with
    | .ok ts _ _ => .told ts
    | .bad p => .bad (spot (s1 ++ [(("" : Str), z.length)]) p)) := by
    unfold readAll
    rw [hlx]
    rfl
  rw [er] at q
  generalize hsg : s1 ++ [(("" : Str), z.length)] = sg at q hR1
  have q0 : EndP T.CReader X.CB x dx a sg 0 vB ((pBody sg (pThing sg (pBracket sg 4)) 0 0).bind (fun b p th => if tok sg p = "" then PR.ok b p th else .bad p)) H1 Q E := by
    cases hp : (pBody sg (pThing sg (pBracket sg 4)) 0 0).bind (fun b p th => if tok sg p = "" then PR.ok b p th else .bad p) with
    | ok ts p th =>
      rw [hp] at q
      exact fun v H' hv hR' G' => q v H' hv (keep (G1.trans G'))
    | bad p =>
      rw [hp] at q
      exact fun dd H' G' hd => q dd H' (keep (G1.trans G')) hd
  refine ⟨_, rfl, x, dx, a, sg, 0, 0, 0, rfl, hR1, rfl, EndP.bind q0 fun b p2 th2 v2 H2 _ hv2 hR2 G2 q2 => ?_⟩
  refine ⟨_, rfl, x, dx, _, rfl, hR2.ob, rfl, x, dx, a, sg, p2, th2, 0, rfl, hR2, rfl, _, rfl, ite2 (fun c => ?_) (fun c => ?_)⟩
  · have ec : ¬ tok sg p2 = "" := fun z => by
      have c2 : (!decide (V.str (tok sg p2) = V.str "")) = true := c
      rw [z, decide_eq_true rfl] at c2
      cases c2
    rw [if_neg ec] at q2
    exact ⟨_, rfl, x, dx, _, rfl, hR2.ob, rfl, x, dx, a, sg, p2, th2, 0, rfl, hR2, by show 1 ≤ 1000; decide, fun a' na => ⟨a', X.CB, spot sg p2, rfl, (tok_cases hR2.ok p2).2.1, upd_same, X.oB, X.wB, X.aB, fun dx n ne => end_bt (fun dd H' s' hd => q2 dd H' (Go.same s') hd) na n ne⟩⟩
  · have ec : tok sg p2 = "" := by
      have c2 : (!decide (V.str (tok sg p2) = V.str "")) = false := Bool.eq_false_iff.mpr c
      by_cases z : tok sg p2 = ""
      · exact z
      · rw [dec_strA z] at c2
        cases c2
    rw [if_pos ec] at q2
    exact ⟨_, rfl, q2 v2 H2 hv2 hR2 (Go.refl _ _)⟩
end
end K05

set_option Elab.async false
set_option linter.all false
set_option maxRecDepth 100000
set_option maxHeartbeats 4000000
namespace OG
open PySem PySem.Spec PyProof.Rows L2
/-! ### the law's own cutting up of a text -/
def LET : Str := "abcdefghijklmnopqrstuvwxyz"
def FIG : Str := "0123456789"
def smOf (c : Nat) : Str := if c ∈ dig then FIG else if c ∈ abc then LET else ""
def leAt (c : Nat) (r : List Nat) : Prop := c = 60 ∧ r.head? = some 61
instance (c : Nat) (r : List Nat) : Decidable (leAt c r) := by unfold leAt; exact inferInstance
def kOf (c : Nat) (r : List Nat) : Nat := if leAt c r then 2 else 1 + run (tl (smOf c)) r
def sevens : List Str := ["(", ")", ";", "+", "-", "<=", " "]
theorem sm_dig {c : Nat} (h : c ∈ dig) : smOf c = FIG := if_pos h
theorem sm_abc {c : Nat} (h : c ∈ abc) : smOf c = LET := by
  unfold smOf
  rw [if_neg (abc_dig c h), if_pos h]
theorem sm_none {c : Nat} (h1 : c ∉ dig) (h2 : c ∉ abc) : smOf c = "" := by
  unfold smOf
  rw [if_neg h1, if_neg h2]
theorem let_fig : (LET : Str) ≠ "" ∧ FIG ≠ "" ∧ FIG ≠ LET ∧ (("" : Str) ≠ LET) := by decide +kernel
theorem run_none (r : List Nat) : run (tl ("" : Str)) r = 0 := by
  cases r with
  | nil => rfl
  | cons c s => exact run_out (by rw [show tl ("" : Str) = [] by decide +kernel]; simp)
theorem k_abc {c : Nat} {r : List Nat} (h : c ∈ abc) : kOf c r = run abc (c :: r) := by
  have n : ¬ leAt c r := fun z => abc_32.2.1 (z.1 ▸ h)
  unfold kOf
  rw [if_neg n, sm_abc h, run_in h]
  rfl
theorem k_dig {c : Nat} {r : List Nat} (h : c ∈ dig) : kOf c r = run dig (c :: r) := by
  have n : ¬ leAt c r := fun z => abc_32.2.2.2.1 (z.1 ▸ h)
  unfold kOf
  rw [if_neg n, sm_dig h, run_in h]
  rfl
theorem k_else {c : Nat} {r : List Nat} (h1 : c ∉ dig) (h2 : c ∉ abc) : kOf c r = if leAt c r then 2 else 1 := by
  unfold kOf
  rw [sm_none h1 h2, run_none]
theorem k_pos (c : Nat) (r : List Nat) : 1 ≤ kOf c r ∧ kOf c r ≤ (c :: r).length := by
  unfold kOf
  by_cases h : leAt c r
  · rw [if_pos h]
    refine ⟨by omega, ?_⟩
    cases r with
    | nil => cases h.2
    | cons d s => rw [List.length_cons, List.length_cons]; omega
  · rw [if_neg h, List.length_cons]
    have := run_le (k := tl (smOf c)) r
    omega
theorem one_in {c : Nat} : S [c] ∈ sevens ↔ (c ∈ one5 ∨ c = 32) := by
  constructor
  · intro h
    have key : ∀ s ∈ sevens, s.length = 1 → ∃ d, s = S [d] ∧ (d ∈ one5 ∨ d = 32) := by
      intro s hs hl
      simp only [sevens, List.mem_cons, List.not_mem_nil, or_false] at hs
      rcases hs with rfl | rfl | rfl | rfl | rfl | rfl | rfl
      · exact ⟨40, by decide +kernel, by decide +kernel⟩
      · exact ⟨41, by decide +kernel, by decide +kernel⟩
      · exact ⟨59, by decide +kernel, by decide +kernel⟩
      · exact ⟨43, by decide +kernel, by decide +kernel⟩
      · exact ⟨45, by decide +kernel, by decide +kernel⟩
      · exact absurd hl (by decide +kernel)
      · exact ⟨32, by decide +kernel, by decide +kernel⟩
    obtain ⟨d, e, hd⟩ := key _ h (by rw [len_S]; rfl)
    have : c = d := by
      have := congrArg tl e
      exact (List.cons.inj (show [c] = [d] from this)).1
    rw [this]
    exact hd
  · have h : (32 :: one5).all (fun c => decide (S [c] ∈ sevens)) = true := by decide +kernel
    rintro (hc | rfl)
    · exact of_decide_eq_true (List.all_eq_true.mp h c (List.mem_cons_of_mem _ hc))
    · exact of_decide_eq_true (List.all_eq_true.mp h 32 List.mem_cons_self)
theorem blank_32 : (32 : Nat) ∉ dig ∧ (32 : Nat) ∉ abc ∧ (32 : Nat) ∉ one5 := by decide +kernel
/-- the sign at a place that is neither letter nor figure -/
theorem sg_else {c : Nat} {r : List Nat} (h1 : c ∉ dig) (h2 : c ∉ abc) (n : c ≠ 32) : (S ((c :: r).take (kOf c r)) ∉ sevens → sgLen (c :: r) = none) ∧ (S ((c :: r).take (kOf c r)) ∈ sevens → sgLen (c :: r) = some (kOf c r)) := by
  rw [k_else h1 h2]
  by_cases h : leAt c r
  · rw [if_pos h]
    have e1 : c = 60 := h.1
    cases r with
    | nil => cases h.2
    | cons d s =>
      have e2 : d = 61 := Option.some.inj h.2
      subst e1 e2
      refine ⟨fun z => absurd (show S [60, 61] ∈ sevens by decide +kernel) z, fun _ => ?_⟩
      rw [sg_cons, if_neg h2, if_neg h1, if_neg (by decide +kernel), if_pos ⟨rfl, rfl⟩]
  · rw [if_neg h]
    have et : (c :: r).take 1 = [c] := rfl
    rw [et, one_in]
    refine ⟨fun z => ?_, fun z => ?_⟩
    · rw [sg_cons, if_neg h2, if_neg h1, if_neg (fun y => z (.inl y)), if_neg (show ¬ (c = 60 ∧ r.head? = some 61) from h)]
    · rcases z with z | z
      · rw [sg_cons, if_neg h2, if_neg h1, if_pos z]
      · exact absurd z n
theorem sg_abc {c : Nat} {r : List Nat} (h : c ∈ abc) : (kOf c r < 9 → sgLen (c :: r) = some (kOf c r)) ∧ (¬ kOf c r < 9 → sgLen (c :: r) = none) := by
  rw [k_abc h]
  refine ⟨fun z => ?_, fun z => ?_⟩
  · rw [sg_cons, if_pos h, if_pos (by omega)]
  · rw [sg_cons, if_pos h, if_neg (by omega)]
theorem sg_dig {c : Nat} {r : List Nat} (h : c ∈ dig) : ((kOf c r < 3 ∧ (c ≠ 48 ∨ kOf c r = 1)) → sgLen (c :: r) = some (kOf c r)) ∧ (¬ (kOf c r < 3 ∧ (c ≠ 48 ∨ kOf c r = 1)) → sgLen (c :: r) = none) := by
  rw [k_dig h]
  have hp := run_pos (r := r) h
  refine ⟨fun z => ?_, fun z => ?_⟩
  · rw [sg_cons, if_neg (dig_abc c h), if_pos h, if_neg (fun y => by omega)]
  · rw [sg_cons, if_neg (dig_abc c h), if_pos h, if_pos ?_]
    by_cases h3 : run dig (c :: r) < 3
    · by_cases h48 : c = 48
      · by_cases h1 : run dig (c :: r) = 1
        · exact absurd ⟨h3, .inr h1⟩ z
        · exact .inl ⟨h48, by omega⟩
      · exact absurd ⟨h3, .inl h48⟩ z
    · exact .inr (by omega)
/-- _law_cut_up(text) -/
def spCut : Sp := fun vs H Q _ => ∃ (z : Str), vs = [.str z] ∧ z.length < 100000 ∧
  match lexW (tl z) 0 with
  | .ok s => ∀ (a : Addr) (H' : Hp), Same H H' → H a = none → SgP H' a (s ++ [(("" : Str), z.length)]) → Q (.ref a) H'
  | .bad p => ∀ H', Same H H' → Q (.int p) H'
/-! ### the law's reading of signs -/
/-- the law's list of signs: the end stands there some times more -/
def SgL (H : Hp) (a : Addr) (sg : Sgs) : Prop := ∃ svs : List V, H a = some (.lst svs) ∧ svs.length = sg.length + 4 ∧ ∀ i, i < sg.length + 4 → ∃ b n, svs[i]? = some (.ref b) ∧ H b = some (.tup [.str (tok sg i), .int n])
theorem SgL.at {H : Hp} {a : Addr} {sg : Sgs} (h : SgL H a sg) {i : Nat} (hi : i < sg.length + 4) : ∃ svs b n, H a = some (.lst svs) ∧ svs[i]? = some (.ref b) ∧ H b = some (.tup [.str (tok sg i), .int n]) := by
  obtain ⟨svs, h1, h2, h3⟩ := h
  obtain ⟨b, n, e1, e2⟩ := h3 i hi
  exact ⟨svs, b, n, h1, e1, e2⟩
theorem SgL.go {H H' : Hp} {a : Addr} {sg : Sgs} {M : Addr → Prop} (h : SgL H a sg) (g : Go M H H') (n : ¬ M a) : SgL H' a sg := by
  obtain ⟨svs, h1, h2, h3⟩ := h
  refine ⟨svs, g.at h1 n, h2, fun i hi => ?_⟩
  obtain ⟨b, k, e1, e2⟩ := h3 i hi
  exact ⟨b, k, e1, g.im _ _ e2⟩
theorem SgL.same {H H' : Hp} {a : Addr} {sg : Sgs} (h : SgL H a sg) (s : Same H H') : SgL H' a sg := h.go (M := fun _ => False) (Go.same s) id
/-- what the law tells: a pair of the thing read, or None, and the place -/
def TelL {α : Type} (val : α → V → Hp → Prop) (r : PR α) (v : V) (H : Hp) : Prop :=
  ∃ (t : Addr) (x : V), v = .ref t ∧
  match r with
  | .ok y p th => H t = some (.tup [x, .int p]) ∧ val y x H ∧ x ≠ .non
  | .bad p => H t = some (.tup [x, .int p]) ∧ x = .non
end OG
namespace OG
open PySem PySem.Spec PyProof.Rows L2
def figB (s : Str) (lo hi : Int) : Bool :=
  match numOf s with
  | some k => decide (lo ≤ k ∧ k ≤ hi)
  | none => false
/-- _law_figure(word, low, high) -/
def spFig : Sp := fun vs H Q _ => ∃ (s : Str) (lo hi : Int), vs = [.str s, .int lo, .int hi] ∧ Tk s ∧ ∀ H', Same H H' → Q (.bl (figB s lo hi)) H'
/-- _law_read_end(signs, at), _law_read_leaf(signs, at) -/
def spL {α : Type} (val : α → V → Hp → Prop) (parse : Sgs → Nat → PR α) (pre : Sgs → Nat → Prop) : Sp := fun vs H Q _ => ∃ (a : Addr) (sg : Sgs) (p : Nat), vs = [.ref a, .int p] ∧ SgL H a sg ∧ SgsOk sg ∧ p < sg.length ∧ pre sg p ∧ ∀ v H', Same H H' → TelL val (parse sg p) v H' → Q v H'
def spLEnd : Sp := spL vE (fun sg p => pEnd sg p 0) (fun _ _ => True)
def pLeaf (sg : Sgs) (p : Nat) : PR Thing := pRest sg (fun p _ => .bad p) (tok sg p) (p + 1) 0
def spLLeaf : Sp := spL vT pLeaf (fun sg p => tok sg p = "step" ∨ tok sg p = "call" ∨ tok sg p = "again")
def pEnds (sg : Sgs) (m : Str) (p : Nat) : PR ((Str × Int) × (Str × Int)) := (pEnd sg p 0).bind fun x p th => (pWord sg m p th).bind fun _ p th => (pEnd sg p th).bind fun y p th => .ok (x, y) p th
def vEE : ((Str × Int) × (Str × Int)) → V → Hp → Prop := fun e v H => Rp H v (.tup [encE e.1, encE e.2])
/-- _law_read_ends(signs, at, middle) -/
def spLEnds : Sp := fun vs H Q _ => ∃ (a : Addr) (sg : Sgs) (p : Nat) (m : Str), vs = [.ref a, .int p, .str m] ∧ SgL H a sg ∧ SgsOk sg ∧ p < sg.length ∧ m ≠ "" ∧ ∀ v H', Same H H' → TelL vEE (pEnds sg m p) v H' → Q v H'
def RmAt (H : Hp) (rm : Addr) (th : Nat) : Prop := H rm = some (.lst [.int (12 - th)])
/-- those with the room -/
def spLR {α : Type} (val : α → V → Hp → Prop) (parse : Sgs → Nat → Nat → PR α) (n : Nat) : Sp := fun vs H Q _ => ∃ (a rm : Addr) (sg : Sgs) (p th dp : Nat), vs = [.ref a, .int p, .int dp, .ref rm] ∧ SgL H a sg ∧ SgsOk sg ∧ p < sg.length ∧ RmAt H rm th ∧ th ≤ 12 ∧ a ≠ rm ∧ dp + n = 4 ∧
  ∀ v H', Go (· = rm) H H' → TelL val (parse sg p th) v H' → (∀ y p' th', parse sg p th = .ok y p' th' → RmAt H' rm th') → Q v H'
def spLThing (n : Nat) : Sp := spLR vT (fun sg => pThing sg (pBracket sg n)) n
def spLBody (n : Nat) : Sp := spLR vB (fun sg => pBody sg (pThing sg (pBracket sg n))) n
def spLBr (n : Nat) : Sp := spLR vB (fun sg => pBracket sg n) n
def spReading : Sp := fun vs H Q _ => ∃ (z : Str), vs = [.str z] ∧ z.length < 90000 ∧ ∀ v H', Same H H' → Rp H' v (encRR (readAll z)) → Q v H'
/-! places behind what was read -/
section
variable {sg : Sgs}
theorem next_of (h : SgsOk sg) {p : Nat} {w : Str} (e : tok sg p = w) (n : w ≠ "") : p + 1 < sg.length := (tok_cases h p).2.2 (by rw [e]; exact n)
theorem num_next (h : SgsOk sg) {p : Nat} {k : Int} (e : numOf (tok sg p) = some k) : p + 1 < sg.length ∧ 0 ≤ k ∧ k ≤ 99 ∧ PySem.intText? (tok sg p) = some k := by
  rcases (tok_cases h p).1.split with ⟨j, j0, j9, h1, h2, h3, h4, _⟩ | ⟨h1, _⟩
  · have : j = k := Option.some.inj (h1.symm.trans e)
    subst this
    exact ⟨(tok_cases h p).2.2 h4, j0, j9, h3⟩
  · rw [h1] at e
    cases e
theorem name_next (h : SgsOk sg) {p : Nat} (e : tok sg p = "n" ∨ nameB (tok sg p) = true) : p + 1 < sg.length := by
  refine (tok_cases h p).2.2 fun z => ?_
  rw [z] at e
  exact absurd e (by decide +kernel)
theorem end_next (h : SgsOk sg) {p th p' th' : Nat} {e : Str × Int} (k : pEnd sg p th = .ok e p' th') : p' < sg.length := by
  unfold pEnd at k
  split at k
  · rename_i j hj
    cases k
    exact (num_next h hj).1
  · split at k
    · rename_i hn
      have h1 := name_next h hn
      split at k
      · obtain ⟨j, q, t, k1, k2⟩ := bind_ok k
        cases k2
        unfold pNum at k1
        split at k1
        · rename_i i hi
          split at k1
          · cases k1
            exact (num_next h hi).1
          · cases k1
        · cases k1
      · cases k
        exact h1
    · cases k
theorem end_free {p th : Nat} : pEnd sg p th = (match pEnd sg p 0 with | .ok e p' _ => .ok e p' th | .bad p' => .bad p') := by
  unfold pEnd
  cases h1 : numOf (tok sg p) with
  | some k => rfl
  | none =>
    dsimp only
    by_cases h2 : tok sg p = "n" ∨ nameB (tok sg p) = true
    · rw [if_pos h2, if_pos h2]
      by_cases h3 : tok sg (p + 1) = "+" ∨ tok sg (p + 1) = "-"
      · rw [if_pos h3, if_pos h3]
        unfold pNum
        cases h4 : numOf (tok sg (p + 2)) with
        | none => rfl
        | some k =>
          dsimp only
          by_cases h5 : 1 ≤ k ∧ k ≤ 99
          · rw [if_pos h5, if_pos h5]
            rfl
          · rw [if_neg h5, if_neg h5]
            rfl
      · rw [if_neg h3, if_neg h3]
    · rw [if_neg h2, if_neg h2]
end
theorem TelL.to {α : Type} {val : α → V → Hp → Prop} {r : PR α} {v : V} {H H' : Hp} (h : TelL val r v H) (i : Imm H H') (hv : ∀ y x, val y x H → val y x H') : TelL val r v H' := by
  obtain ⟨t, x, e, h⟩ := h
  refine ⟨t, x, e, ?_⟩
  cases r with
  | ok y p th => exact ⟨i _ _ h.1, hv _ _ h.2.1, h.2.2⟩
  | bad p => exact ⟨i _ _ h.1, h.2⟩
theorem vE_non {e : Str × Int} {v : V} {H : Hp} (h : vE e v H) : v ≠ .non := by
  obtain ⟨a, vs, rfl, _⟩ := h
  exact fun z => by cases z
theorem vB_non {b : List Thing} {v : V} {H : Hp} (h : vB b v H) : v ≠ .non := by
  obtain ⟨a, vs, rfl, _⟩ := h
  exact fun z => by cases z
theorem vT_non {t : Thing} {v : V} {H : Hp} (h : vT t v H) : v ≠ .non := by
  cases t <;> (obtain ⟨a, vs, rfl, _⟩ := h; exact fun z => by cases z)
end OG
namespace OG
open PySem PySem.Spec PyProof.Rows L2
def PR.setTh {α : Type} (r : PR α) (th : Nat) : PR α :=
  match r with
  | .ok a p _ => .ok a p th
  | .bad p => .bad p
theorem tel_set {α : Type} {val : α → V → Hp → Prop} {r : PR α} {th : Nat} {v : V} {H : Hp} : TelL val (r.setTh th) v H ↔ TelL val r v H := by
  cases r <;> exact Iff.rfl
section
variable {sg : Sgs}
theorem num_free {lo hi : Int} {p : Nat} (th : Nat) : pNum sg lo hi p th = (pNum sg lo hi p 0).setTh th := by
  unfold pNum
  cases numOf (tok sg p) with
  | none => rfl
  | some k =>
    dsimp only
    by_cases h : lo ≤ k ∧ k ≤ hi
    · rw [if_pos h, if_pos h]; rfl
    · rw [if_neg h, if_neg h]; rfl
theorem word_free {w : Str} {p : Nat} (th : Nat) : pWord sg w p th = (pWord sg w p 0).setTh th := by
  unfold pWord
  by_cases h : tok sg p = w
  · rw [if_pos h, if_pos h]; rfl
  · rw [if_neg h, if_neg h]; rfl
theorem name_free {p : Nat} (th : Nat) : pName sg p th = (pName sg p 0).setTh th := by
  unfold pName
  by_cases h : nameB (tok sg p) = true
  · rw [if_pos h, if_pos h]; rfl
  · rw [if_neg h, if_neg h]; rfl
theorem of_free {ws : List Str} {p : Nat} (th : Nat) : pOf sg ws p th = (pOf sg ws p 0).setTh th := by
  unfold pOf
  by_cases h : tok sg p ∈ ws
  · rw [if_pos h, if_pos h]; rfl
  · rw [if_neg h, if_neg h]; rfl
theorem endf {p : Nat} (th : Nat) : pEnd sg p th = (pEnd sg p 0).setTh th := by
  rw [end_free]
  cases pEnd sg p 0 <;> rfl
theorem bind_free {α β : Type} {r : Nat → PR α} {f : α → Nat → Nat → PR β} (hr : ∀ th, r th = (r 0).setTh th) (hf : ∀ a p t, f a p t = (f a p 0).setTh t) (th : Nat) : (r th).bind f = ((r 0).bind f).setTh th := by
  rw [hr th]
  cases h : r 0 with
  | ok a p t =>
    show f a p th = (f a p t).setTh th
    rw [hf a p th, hf a p t]
    cases f a p 0 <;> rfl
  | bad p => rfl
theorem leaf_free {br br2 : Br} {w : Str} (hw : w = "step" ∨ w = "call" ∨ w = "again") (p th : Nat) : pRest sg br w p th = (pRest sg br2 w p 0).setTh th := by
  have n1 : ¬ (("call" : Str) = "step") := by decide +kernel
  have n2 : ¬ (("again" : Str) = "step") := by decide +kernel
  have n3 : ¬ (("again" : Str) = "call") := by decide +kernel
  unfold pRest
  rcases hw with rfl | rfl | rfl
  · rw [if_pos rfl, if_pos rfl]
    exact bind_free (fun th => num_free th) (fun _ _ _ => rfl) th
  · rw [if_neg n1, if_pos rfl, if_neg n1, if_pos rfl]
    refine bind_free (fun th => name_free th) (fun x q t => ?_) th
    refine bind_free (r := fun t => pWord sg "with" q t) (fun th => word_free th) (fun _ q2 t2 => ?_) t
    exact bind_free (r := fun t => pEnd sg q2 t) (f := fun e p th => PR.ok (Thing.call x e) p th) (fun th => endf th) (fun _ _ _ => rfl) t2
  · rw [if_neg n2, if_neg n3, if_pos rfl, if_neg n2, if_neg n3, if_pos rfl]
    refine bind_free (fun th => num_free th) (fun k q t => ?_) th
    refine bind_free (r := fun t => pWord sg "on" q t) (fun th => word_free th) (fun _ q2 t2 => ?_) t
    exact bind_free (r := fun t => pOf sg ["halves", "thirds", "less"] q2 t) (f := fun w p th => PR.ok (Thing.again k w) p th) (fun th => of_free th) (fun _ _ _ => rfl) t2
theorem ends_bind {α : Type} {m : Str} {p th : Nat} (f : (Str × Int) → (Str × Int) → Nat → Nat → PR α) : ((pEnd sg p th).bind fun x p th => (pWord sg m p th).bind fun _ p th => (pEnd sg p th).bind fun y p th => f x y p th) = (match pEnds sg m p with | .ok e q _ => f e.1 e.2 q th | .bad q => .bad q) := by
  unfold pEnds
  rw [endf th]
  cases pEnd sg p 0 with
  | bad q => rfl
  | ok x q t =>
    show ((pWord sg m q th).bind fun _ p th => (pEnd sg p th).bind fun y p th => f x y p th) = (match (pWord sg m q t).bind fun _ p th => (pEnd sg p th).bind fun y p th => PR.ok (x, y) p th with | .ok e q _ => f e.1 e.2 q th | .bad q => .bad q)
    rw [word_free th, word_free t]
    cases pWord sg m q 0 with
    | bad q2 => rfl
    | ok w q2 t2 =>
      show ((pEnd sg q2 th).bind fun y p th => f x y p th) = (match (pEnd sg q2 t).bind fun y p th => PR.ok (x, y) p th with | .ok e q _ => f e.1 e.2 q th | .bad q => .bad q)
      rw [endf th, endf t]
      cases pEnd sg q2 0 <;> rfl
theorem ends_next (h : SgsOk sg) {m : Str} {p q t : Nat} {e : (Str × Int) × (Str × Int)} (k : pEnds sg m p = .ok e q t) : q < sg.length := by
  obtain ⟨x, a1, a2, h1, h2⟩ := bind_ok k
  obtain ⟨_, b1, b2, h3, h4⟩ := bind_ok h2
  obtain ⟨_, c1, c2, h5, h6⟩ := bind_ok h4
  cases h6
  exact end_next h h5
theorem for_spec {br : Br} {p th : Nat} (h1 : nameB (tok sg p) = true) (h2 : tok sg (p + 1) = "from") : pFor sg br p th = (match pEnds sg "to" (p + 2) with | .ok e q _ => (br q th).bind fun c q2 t2 => .ok (Thing.loop (tok sg p) e.1 e.2 c) q2 t2 | .bad q => .bad q) := by
  have e1 : pName sg p th = .ok (tok sg p) (p + 1) th := if_pos h1
  have e2 : pWord sg "from" (p + 1) th = .ok "from" (p + 2) th := if_pos h2
  unfold pFor
  rw [e1]
  show ((pWord sg "from" (p + 1) th).bind fun _ p_1 th => (pEnd sg p_1 th).bind fun a p_1 th => (pWord sg "to" p_1 th).bind fun _ p_1 th => (pEnd sg p_1 th).bind fun b p_1 th => (br p_1 th).bind fun c p_1 th => PR.ok (Thing.loop (tok sg p) a b c) p_1 th) = _
  rw [e2]
  exact ends_bind (fun a b q t => (br q t).bind fun c p_1 th => PR.ok (Thing.loop (tok sg p) a b c) p_1 th)
theorem if_spec {br : Br} {p th : Nat} : pIf sg br p th = (match pEnds sg "<=" p with | .ok e q _ => (br q th).bind fun c p th => (pElse sg br p th).bind fun d p th =>   .ok (Thing.test e.1 e.2 c d) p th | .bad q => .bad q) :=
  ends_bind (fun a b q t => (br q t).bind fun c p th => (pElse sg br p th).bind fun d p th => PR.ok (Thing.test a b c d) p th)
/-- where a bracket, a thing, a body leave off there is a sign -/
def NxB (sg : Sgs) (br : Br) : Prop := ∀ p th b p' th', p < sg.length → br p th = .ok b p' th' → p' < sg.length
theorem num_nx (h : SgsOk sg) {lo hi k : Int} {p th p' th' : Nat} (e : pNum sg lo hi p th = .ok k p' th') : p' < sg.length := by
  unfold pNum at e
  split at e
  · rename_i j hj
    split at e
    · cases e
      exact (num_next h hj).1
    · cases e
  · cases e
theorem word_nx (h : SgsOk sg) {w x : Str} {p th p' th' : Nat} (n : w ≠ "") (e : pWord sg w p th = .ok x p' th') : p' < sg.length := by
  unfold pWord at e
  split at e
  · rename_i hw
    cases e
    exact next_of h hw n
  · cases e
theorem of_nx (h : SgsOk sg) {ws : List Str} {x : Str} {p th p' th' : Nat} (n : ("" : Str) ∉ ws) (e : pOf sg ws p th = .ok x p' th') : p' < sg.length := by
  unfold pOf at e
  split at e
  · rename_i hw
    cases e
    exact (tok_cases h p).2.2 fun z => n (z ▸ hw)
  · cases e
theorem thing_nx (h : SgsOk sg) {br : Br} (hb : NxB sg br) {t : Thing} {p th p' th' : Nat} (e : pThing sg br p th = .ok t p' th') : p' < sg.length := by
  unfold pThing at e
  split at e
  · rename_i hc
    have h0 : p + 1 < sg.length := (tok_cases h p).2.2 fun z => by have := hc.2; rw [z] at this; exact absurd this (by decide +kernel)
    unfold pRest at e
    split at e
    · obtain ⟨k, a1, a2, h1, h2⟩ := bind_ok e
      cases h2
      exact num_nx h h1
    · split at e
      · obtain ⟨x, a1, a2, h1, h2⟩ := bind_ok e
        obtain ⟨_, b1, b2, h3, h4⟩ := bind_ok h2
        obtain ⟨_, c1, c2, h5, h6⟩ := bind_ok h4
        cases h6
        exact end_next h h5
      · split at e
        · obtain ⟨x, a1, a2, h1, h2⟩ := bind_ok e
          obtain ⟨_, b1, b2, h3, h4⟩ := bind_ok h2
          obtain ⟨_, c1, c2, h5, h6⟩ := bind_ok h4
          cases h6
          exact of_nx h (by decide +kernel) h5
        · split at e
          · obtain ⟨x, a1, a2, h1, h2⟩ := bind_ok e
            obtain ⟨_, b1, b2, h3, h4⟩ := bind_ok h2
            obtain ⟨_, c1, c2, h5, h6⟩ := bind_ok h4
            obtain ⟨_, d1, d2, h7, h8⟩ := bind_ok h6
            obtain ⟨_, e1, e2, h9, h10⟩ := bind_ok h8
            obtain ⟨_, f1, f2, h11, h12⟩ := bind_ok h10
            cases h12
            exact hb _ _ _ _ _ (end_next h h9) h11
          · split at e
            · obtain ⟨x, a1, a2, h1, h2⟩ := bind_ok e
              obtain ⟨_, b1, b2, h3, h4⟩ := bind_ok h2
              obtain ⟨_, c1, c2, h5, h6⟩ := bind_ok h4
              obtain ⟨_, d1, d2, h7, h8⟩ := bind_ok h6
              obtain ⟨_, e1, e2, h9, h10⟩ := bind_ok h8
              cases h10
              have k7 := hb _ _ _ _ _ (end_next h h5) h7
              unfold pElse at h9
              split at h9
              · rename_i hw
                exact hb _ _ _ _ _ (next_of h hw (by decide +kernel)) h9
              · cases h9
                exact k7
            · obtain ⟨x, a1, a2, h1, h2⟩ := bind_ok e
              cases h2
              exact hb _ _ _ _ _ h0 h1
  · cases e
theorem loop_nx (h : SgsOk sg) {thing : Nat → Nat → PR Thing} (ht : ∀ p th t p' th', thing p th = .ok t p' th' → p' < sg.length) : ∀ (f : Nat) (acc : List Thing) (p th : Nat) (b : List Thing) (p' th' : Nat), p < sg.length → pLoop sg thing f acc p th = .ok b p' th' → p' < sg.length
  | 0, acc, p, th, b, p', th', hp, e => by cases e
  | f + 1, acc, p, th, b, p', th', hp, e => by
    rw [pLoop] at e
    split at e
    · obtain ⟨t, a1, a2, h1, h2⟩ := bind_ok e
      exact loop_nx h ht f _ _ _ _ _ _ (ht _ _ _ _ _ h1) h2
    · cases e
      exact hp
theorem bracket_nx (h : SgsOk sg) : ∀ n : Nat, NxB sg (pBracket sg n)
  | 0 => fun p th b p' th' _ e => by cases e
  | n + 1 => fun p th b p' th' _ e => by
    have e' : ((pWord sg "(" p th).bind fun _ p th => (pBody sg (pThing sg (pBracket sg n)) p th).bind fun b p th => (pWord sg ")" p th).bind fun _ p th => .ok b p th) = .ok b p' th' := e
    obtain ⟨_, a1, a2, h1, h2⟩ := bind_ok e'
    obtain ⟨_, b1, b2, h3, h4⟩ := bind_ok h2
    obtain ⟨_, c1, c2, h5, h6⟩ := bind_ok h4
    cases h6
    exact word_nx h (by decide +kernel) h5
end
end OG
namespace OG
open PySem PySem.Spec PyProof.Rows L2
theorem body_nx {sg : Sgs} (h : SgsOk sg) {n : Nat} {b : List Thing} {p th p' th' : Nat} (e : pBody sg (pThing sg (pBracket sg n)) p th = .ok b p' th') : p' < sg.length := by
  obtain ⟨t, a1, a2, h1, h2⟩ := bind_ok e
  exact loop_nx h (fun p th t p' th' k => thing_nx h (bracket_nx h n) k) _ _ _ _ _ _ _ (thing_nx h (bracket_nx h n) h1) h2
theorem body_th {sg : Sgs} {n : Nat} {b : List Thing} {p th p' th' : Nat} (e : pBody sg (pThing sg (pBracket sg n)) p th = .ok b p' th') : th' ≤ 12 := by
  obtain ⟨t, a1, a2, h1, h2⟩ := bind_ok e
  have k1 := pThing_th (pBracket_ok n) h1
  exact (pLoop_th (fun p th t p' th' h => pThing_th (pBracket_ok n) h) _ _ _ _ _ _ _ h2).2 k1.2
end OG
namespace OG
open PySem PySem.Spec PyProof.Rows L2
/-! ### every place that is told lies among the signs -/
def GoodP {α : Type} (sg : Sgs) (r : PR α) : Prop :=
  match r with
  | .ok _ p _ => p < sg.length
  | .bad p => p < sg.length
section
variable {sg : Sgs}
theorem GoodP.bind {α β : Type} {r : PR α} {f : α → Nat → Nat → PR β} (h : GoodP sg r) (k : ∀ a p t, r = .ok a p t → p < sg.length → GoodP sg (f a p t)) : GoodP sg (r.bind f) := by
  cases r with
  | ok a p t => exact k a p t rfl h
  | bad p => exact h
theorem good_word (hk : SgsOk sg) {w : Str} (n : w ≠ "") {p th : Nat} (hp : p < sg.length) : GoodP sg (pWord sg w p th) := by
  unfold pWord
  by_cases h : tok sg p = w
  · rw [if_pos h]
    exact next_of hk h n
  · rw [if_neg h]
    exact hp
theorem good_name (hk : SgsOk sg) {p th : Nat} (hp : p < sg.length) : GoodP sg (pName sg p th) := by
  unfold pName
  by_cases h : nameB (tok sg p) = true
  · rw [if_pos h]
    exact name_next hk (.inr h)
  · rw [if_neg h]
    exact hp
theorem good_num (hk : SgsOk sg) {lo hi : Int} {p th : Nat} (hp : p < sg.length) : GoodP sg (pNum sg lo hi p th) := by
  cases hr : pNum sg lo hi p th with
  | ok k p' t => exact num_nx hk hr
  | bad q =>
    unfold pNum at hr
    split at hr
    · split at hr
      · cases hr
      · cases hr
        exact hp
    · cases hr
      exact hp
theorem good_of (hk : SgsOk sg) {ws : List Str} (n : ("" : Str) ∉ ws) {p th : Nat} (hp : p < sg.length) : GoodP sg (pOf sg ws p th) := by
  unfold pOf
  by_cases h : tok sg p ∈ ws
  · rw [if_pos h]
    exact (tok_cases hk p).2.2 fun z => n (z ▸ h)
  · rw [if_neg h]
    exact hp
theorem good_end (hk : SgsOk sg) {p th : Nat} (hp : p < sg.length) : GoodP sg (pEnd sg p th) := by
  cases hr : pEnd sg p th with
  | ok k p' t => exact end_next hk hr
  | bad q =>
    unfold pEnd at hr
    split at hr
    · cases hr
    · split at hr
      · rename_i hn
        have n1 := name_next hk hn
        split at hr
        · rename_i hs
          have n2 : p + 1 + 1 < sg.length := by
            rcases hs with z | z <;> exact next_of hk z (by decide +kernel)
          have g := good_num hk (lo := 1) (hi := 99) (th := th) n2
          cases hb : pNum sg 1 99 (p + 2) th with
          | ok a b c => rw [hb] at hr; cases hr
          | bad q' =>
            rw [show p + 1 + 1 = p + 2 from rfl, hb] at g
            rw [hb] at hr
            cases hr
            exact g
        · cases hr
      · cases hr
        exact hp
def GoodB (sg : Sgs) (br : Br) : Prop := ∀ p th, p < sg.length → GoodP sg (br p th)
theorem good_thing (hk : SgsOk sg) {br : Br} (hb : GoodB sg br) {p th : Nat} (hp : p < sg.length) : GoodP sg (pThing sg br p th) := by
  unfold pThing
  by_cases h : th < 12 ∧ tok sg p ∈ kinds
  · rw [if_pos h]
    have n1 : p + 1 < sg.length := (tok_cases hk p).2.2 fun z => by have := h.2; rw [z] at this; exact absurd this (by decide +kernel)
    unfold pRest
    split
    · exact (good_num hk n1).bind fun _ _ _ _ l => l
    · split
      · exact (good_name hk n1).bind fun _ _ _ _ l => (good_word hk (by decide +kernel) l).bind fun _ _ _ _ l => (good_end hk l).bind fun _ _ _ _ l => l
      · split
        · exact (good_num hk n1).bind fun _ _ _ _ l => (good_word hk (by decide +kernel) l).bind fun _ _ _ _ l => (good_of hk (by decide +kernel) l).bind fun _ _ _ _ l => l
        · split
          · exact (good_name hk n1).bind fun _ _ _ _ l => (good_word hk (by decide +kernel) l).bind fun _ _ _ _ l => (good_end hk l).bind fun _ _ _ _ l => (good_word hk (by decide +kernel) l).bind fun _ _ _ _ l => (good_end hk l).bind fun _ _ _ _ l => (hb _ _ l).bind fun _ _ _ _ l => l
          · split
            · refine (good_end hk n1).bind fun _ _ _ _ l => (good_word hk (by decide +kernel) l).bind fun _ _ _ _ l => (good_end hk l).bind fun _ _ _ _ l => (hb _ _ l).bind fun _ q t _ l => ?_
              refine GoodP.bind ?_ fun _ _ _ _ l => l
              unfold pElse
              by_cases he : tok sg q = "else"
              · rw [if_pos he]
                exact hb _ _ (next_of hk he (by decide +kernel))
              · rw [if_neg he]
                exact l
            · exact (hb _ _ n1).bind fun _ _ _ _ l => l
  · rw [if_neg h]
    exact hp
theorem good_loop (hk : SgsOk sg) {thing : Nat → Nat → PR Thing} (ht : ∀ p th, p < sg.length → GoodP sg (thing p th)) : ∀ (f : Nat) (acc : List Thing) (p th : Nat), p < sg.length → GoodP sg (pLoop sg thing f acc p th)
  | 0, acc, p, th, hp => hp
  | f + 1, acc, p, th, hp => by
    rw [pLoop]
    by_cases h : tok sg p = ";"
    · rw [if_pos h]
      exact (ht _ _ (next_of hk h (by decide +kernel))).bind fun _ _ _ _ l => good_loop hk ht f _ _ _ l
    · rw [if_neg h]
      exact hp
theorem good_bracket (hk : SgsOk sg) : ∀ n : Nat, GoodB sg (pBracket sg n)
  | 0 => fun p th hp => hp
  | n + 1 => fun p th hp => by
    show GoodP sg ((pWord sg "(" p th).bind fun _ p th => (pBody sg (pThing sg (pBracket sg n)) p th).bind fun b p th => (pWord sg ")" p th).bind fun _ p th => .ok b p th)
    refine (good_word hk (by decide +kernel) hp).bind fun _ _ _ _ l => GoodP.bind ?_ fun _ _ _ _ l => (good_word hk (by decide +kernel) l).bind fun _ _ _ _ l => l
    exact (good_thing hk (good_bracket hk n) l).bind fun _ _ _ _ l => good_loop hk (fun p th hp => good_thing hk (good_bracket hk n) hp) _ _ _ _ l
theorem good_body (hk : SgsOk sg) (n : Nat) {p th : Nat} (hp : p < sg.length) : GoodP sg (pBody sg (pThing sg (pBracket sg n)) p th) :=
  (good_thing hk (good_bracket hk n) hp).bind fun _ _ _ _ l => good_loop hk (fun p th hp => good_thing hk (good_bracket hk n) hp) _ _ _ _ l
end
end OG

set_option Elab.async false
set_option linter.all false
set_option maxRecDepth 100000
set_option maxHeartbeats 4000000
namespace K05
open PySem PySem.Spec PyProof.Rows L2 OG
open C8 (pss_cut pe_gc)
open OGX

section
variable {P : Program} {w : World} {K : PySem.W.Frag} {mg : Str → Option Value} {base : Heap}
theorem one_strB {c d : Nat} {z : Str} (h : (⟨#[c]⟩ : Str) = z) (e : tl z = [d]) : c = d := by
  have := congrArg tl h
  rw [e] at this
  exact (List.cons.inj (show [c] = [d] from this)).1
theorem cut_takeB {z : Str} {p k : Nat} (hk : p + k ≤ z.length) : cutS z (some (p : Int)) (some ((p + k : Nat) : Int)) = S (((tl z).drop p).take k) := by
  have hz := len_tl z
  unfold cutS
  rw [HT.sIx_nat, HT.sIx_nat, Nat.min_eq_left (by omega), Nat.min_eq_left (by omega), Nat.add_sub_cancel_left]
theorem cut_twoB {z : Str} {p : Nat} (hp : p < z.length) : tl (cutS z (some (p : Int)) (some ((p : Int) + 2))) = ((tl z).drop p).take 2 := by
  have lz := len_tl z
  have e2 : ((p : Int) + 2) = ((p + 2 : Nat) : Int) := by omega
  unfold cutS
  rw [e2, HT.sIx_nat, HT.sIx_nat, Nat.min_eq_left (show p ≤ z.length by omega), tl_S]
  show ((tl z).drop p).take (min (p + 2) z.length - p) = _
  by_cases h : p + 2 ≤ z.length
  · rw [Nat.min_eq_left h, Nat.add_sub_cancel_left]
  · rw [Nat.min_eq_right (by omega), List.take_of_length_le (by rw [List.length_drop]; omega), List.take_of_length_le (by rw [List.length_drop]; omega)]
theorem le_cutB {z : Str} {p : Nat} (hp : p < z.length) {c : Nat} {r : List Nat} (hd : (tl z).drop p = c :: r) : cutS z (some (p : Int)) (some ((p : Int) + 2)) = "<=" ↔ leAt c r := by
  have e := cut_twoB hp
  rw [hd] at e
  have e2 : tl ("<=" : Str) = [60, 61] := by decide +kernel
  constructor
  · intro h
    rw [h, e2] at e
    cases r with
    | nil => simp at e
    | cons d s =>
      have e3 : [60, 61] = [c, d] := e
      obtain ⟨h1, h2⟩ := List.cons.inj e3
      exact ⟨h1.symm, congrArg some (List.cons.inj h2).1.symm⟩
  · rintro ⟨rfl, h⟩
    cases r with
    | nil => cases h
    | cons d s =>
      obtain rfl : d = 61 := Option.some.inj h
      refine str_ext ?_
      rw [e, e2]
      rfl
theorem sgp_snocB {H H' : Hp} {a t : Addr} {s : Sgs} {svs : List V} {x : Str × Nat} (h2 : svs.length = s.length) (h3 : ∀ (i : Nat) y, s[i]? = some y → ∃ b, svs[i]? = some (.ref b) ∧ H b = some (.tup [.str y.1, .int y.2]))
    (st : Imm H H') (ha : H' a = some (.lst (svs ++ [.ref t]))) (ht : H' t = some (.tup [.str x.1, .int x.2])) : SgP H' a (s ++ [x]) := by
  refine ⟨svs ++ [.ref t], ha, by rw [List.length_append, List.length_append, h2]; rfl, fun i y hy => ?_⟩
  by_cases hi : i < s.length
  · rw [List.getElem?_append_left hi] at hy
    obtain ⟨b, j1, j2⟩ := h3 i y hy
    exact ⟨b, by rw [List.getElem?_append_left (by rw [h2]; exact hi)]; exact j1, st _ _ j2⟩
  · have hi2 : i = s.length := by
      have := (List.getElem?_eq_some_iff.mp hy).1
      rw [List.length_append] at this
      have : i < s.length + 1 := this
      omega
    subst hi2
    rw [List.getElem?_append_right (Nat.le_refl _), Nat.sub_self] at hy
    have : x = y := Option.some.inj hy
    subst this
    refine ⟨t, ?_, ht⟩
    rw [List.getElem?_append_right (by rw [h2]; exact Nat.le_refl _), h2, Nat.sub_self]
    rfl
theorem not_ne {x y : Str} (h : (!decide (V.str x = V.str y)) = true) : x ≠ y := fun z => by
  rw [z, decide_eq_true rfl] at h
  cases h
theorem not_eq {x y : Str} (h : ¬ (!decide (V.str x = V.str y)) = true) : x = y := by
  by_cases z : x = y
  · exact z
  · rw [decide_eq_false (fun e => z (V.str.inj e))] at h
    exact absurd rfl h
theorem ok_cut_up (T : Tops w K mg) : FnOk P w K mg base CX0 1 T.fl_cut_up T.dl_cut_up ["_law_text"] spCut := by
  refine T.Fl_cut_up.ok (k := 0) scl_cut_up (fun vs H Q E h => ?_) (fun cdv A outer s H vs Q E hr h => ?_)
  · obtain ⟨z, rfl, _⟩ := h
    rfl
  obtain ⟨z, rfl, hz, q⟩ := h
  refine ⟨_, (pss_cons (ps_set (i := 1) scl_cut_up.nd rfl (Or.inl rfl) (pe_lst pa_nil))
 (pss_cons (ps_set (i := 2) scl_cut_up.nd rfl (Or.inl rfl) pe_int)
 (pss_cons (ps_asg (pe_tup (pa_cons pe_str (pa_cons pe_str pa_nil))) (pg_tup rfl (pgs_cons (pg_name (i := 3) scl_cut_up.nd rfl (Or.inl rfl)) (pgs_cons (pg_name (i := 4) scl_cut_up.nd rfl (Or.inl rfl)) pgs_nil))))
 (pss_cons (ps_while PassesOwn.never (pt_cmpR op_lt (pv 2) (pe_callB call_len_str (by rfl) T.mlen PySem.boot_len (pa_cons (pv 0) pa_nil)) (nomark _))
  (pss_cons (ps_set (i := 5) scl_cut_up.nd rfl (Or.inl rfl) (pe_op op_add (pv 2) pe_int))
 (pss_cut (ps_set (i := 6) scl_cut_up.nd rfl (Or.inl rfl) (pe_ifExp (pt_cmpR op_in_sign (pe_ix ix_str (pv 0) (pv 2) (fun _ _ => rfl)) (pv 3) (by rfl)) (pv 3) pe_str))
 (pss_cut (ps_if (pt_cmpR op_in_sign (pe_ix ix_str (pv 0) (pv 2) (fun _ _ => rfl)) (pv 4) (by rfl))
  (pss_one (ps_set (i := 6) scl_cut_up.nd rfl (Or.inl rfl) (pv 4)))
  pss_nil)
 (pss_cut (ps_while PassesOwn.never (PW.pt (pw_and (pt_cmpR op_lt (pv 5) (pe_callB call_len_str (by rfl) T.mlen PySem.boot_len (pa_cons (pv 0) pa_nil)) (nomark _)) (pw_and (pt_cmpR op_in_sign (pe_ix ix_str (pv 0) (pv 5) (fun _ _ => rfl)) (pv 6) (by rfl)) (pw_and1 (pt_cmpR op_ne (pv 6) pe_str (nomark _))))))
  (pss_one (ps_set (i := 5) scl_cut_up.nd rfl (Or.inl rfl) (pe_op op_add (pv 5) pe_int))))
 (pss_cut (ps_if (pt_cmpR op_eq (pe_slice sl_str (pv 0) (po_some (pv 2)) (po_some (pe_op op_add (pv 2) pe_int))) pe_str (nomark _))
  (pss_one (ps_set (i := 5) scl_cut_up.nd rfl (Or.inl rfl) (pe_op op_add (pv 2) pe_int)))
  pss_nil)
 (pss_cons (ps_set (i := 7) scl_cut_up.nd rfl (Or.inl rfl) (pe_slice sl_str (pv 0) (po_some (pv 2)) (po_some (pv 5))))
 (pss_cut (ps_set (i := 8) scl_cut_up.nd rfl (Or.inl rfl) (pe_ifExp (pt_cmpR op_eq (pv 6) (pv 3) (nomark _)) (pe_cmpR op_lt (pe_callB call_len_str (by rfl) T.mlen PySem.boot_len (pa_cons (pv 7) pa_nil)) pe_int (nomark _)) (pe_and (pe_cmpR op_lt (pe_callB call_len_str (by rfl) T.mlen PySem.boot_len (pa_cons (pv 7) pa_nil)) pe_int (nomark _)) (pe_one (pe_or (pe_cmpR op_ne (pe_ix ix_str (pv 7) pe_int (fun _ _ => rfl)) pe_str (nomark _)) (pe_one (pe_cmpR op_eq (pv 7) pe_str (nomark _))))))))
 (pss_cut (ps_if (PW.pt (pw_or (PW.pt (pw_and (pt_cmpR op_eq (pv 6) pe_str (nomark _)) (pw_and1 (pt_cmpR op_notIn_seq (pv 7) (pe_lst (pa_cons pe_str (pa_cons pe_str (pa_cons pe_str (pa_cons pe_str (pa_cons pe_str (pa_cons pe_str (pa_cons pe_str pa_nil)))))))) (by rfl))))) (pw_or1 (PW.pt (pw_and (pt_cmpR op_ne (pv 6) pe_str (nomark _)) (pw_and1 (pt_not (pt_val (pv 8)))))))))
  (pss_one (ps_ret (pv 2)))
  pss_nil)
 (pss_cut (ps_if (pt_cmpR op_ne (pv 7) pe_str (nomark _))
  (pss_one (ps_expr (pe_bm PySem.F.plainAttrs_list PySem.F.slot_list_append PySem.F.type_list_append mt_append (pv 1) (pa_cons (pe_tup (pa_cons (pv 7) (pa_cons (pv 2) pa_nil))) pa_nil))))
  pss_nil)
 (pss_one (ps_set (i := 2) scl_cut_up.nd rfl (Or.inl rfl) (pv 5)))))))))))))
 (pss_one (ps_ret (pe_op op_cat (pv 1) (pe_lst (pa_cons (pe_tup (pa_cons pe_str (pa_cons (pe_callB call_len_str (by rfl) T.mlen PySem.boot_len (pa_cons (pv 0) pa_nil)) pa_nil))) pa_nil))))))))), ?_⟩
  have lz := len_tl z
  refine ⟨Nat.zero_le _, fun F nF => ?_⟩
  have sF : Same H (upd H F (.lst [])) := same_new nF
  refine ⟨(by show 2 ≤ sizeLine; decide), fun tp ntp => ?_⟩
  have sT := sF.trans (same_new (o := .tup [.str LET, .str FIG]) ntp)
  refine ⟨tp, _, rfl, SqT.of upd_same, rfl, _, _, rfl, _, _, rfl, rfl, ?_⟩
  refine ⟨fun m σ H' => Same H H' ∧ ∃ (p : Nat) (dn : Sgs) (x5 x6 x7 x8 : Option V), σ = [some (.str z), some (.ref F), some (.int p), some (.str LET), some (.str FIG), x5, x6, x7, x8] ∧ p ≤ z.length ∧ m = z.length - p ∧ (lexW ((tl z).drop p) p).pre dn = lexW (tl z) 0 ∧ dn.length ≤ p ∧ SgP H' F dn,
    ⟨z.length - 0, sT, 0, [], none, none, none, none, rfl, Nat.zero_le _, rfl, by rw [pre_nil, List.drop_zero], Nat.le_refl _, [], same_new ntp _ _ upd_same, rfl, fun i s h => by simp at h⟩, ?_⟩
  rintro m σ H1 ⟨sm, p, dn, x5, x6, x7, x8, rfl, hp, rfl, hL, hdl, hsg⟩
  refine ⟨_, rfl, _, rfl, z, rfl, sz (by omega), _, _, rfl, rfl, _, rfl, ite2 (fun c1 => ?_) (fun c1 => ?_)⟩
  · have c2 : (p : Int) < (z.length : Int) := of_decide_eq_true c1
    obtain ⟨c0, r0, hd⟩ : ∃ c0 r0, (tl z).drop p = c0 :: r0 := ⟨_, _, List.drop_eq_getElem_cons (by omega : p < (tl z).length)⟩
    have hd1 : (tl z).drop (p + 1) = r0 := by
      have : (tl z).drop (p + 1) = ((tl z).drop p).drop 1 := by rw [List.drop_drop]
      rw [this, hd]
      rfl
    have hlen : (c0 :: r0).length = z.length - p := by rw [← hd, List.length_drop]; omega
    have kp := k_pos c0 r0
    refine ⟨_, fun σ' H' z => z, ?_⟩
    refine ⟨_, rfl, _, 1, rfl, rfl, ?_⟩
    have ep : ((p : Int) + 1) = ((p + 1 : Nat) : Int) := by omega
    -- some
    refine ⟨fun σ' H' => σ' = [some (.str z), some (.ref F), some (.int p), some (.str LET), some (.str FIG), some (.int ((p : Int) + 1)), some (.str (if c0 ∈ abc then LET else "")), x7, x8] ∧ H1 = H', ?_, ?_⟩
    · refine ⟨_, rfl, _, rfl, z, _, c0, rfl, rfl, sz (by omega), at_head hd, _, rfl, c0, _, rfl, rfl, _, rfl, ite2 (fun c3 => ?_) (fun c3 => ?_)⟩
      · rw [if_pos (show c0 ∈ abc from of_decide_eq_true c3)]
        exact ⟨_, rfl, rfl, rfl⟩
      · rw [if_neg (show c0 ∉ abc from fun z => c3 (decide_eq_true z))]
        exact ⟨rfl, rfl⟩
    rintro σ' H' ⟨rfl, rfl⟩
    refine ⟨fun σ' H' => σ' = [some (.str z), some (.ref F), some (.int p), some (.str LET), some (.str FIG), some (.int ((p : Int) + 1)), some (.str (smOf c0)), x7, x8] ∧ H1 = H', ?_, ?_⟩
    · refine ⟨_, rfl, _, rfl, z, _, c0, rfl, rfl, sz (by omega), at_head hd, _, rfl, c0, _, rfl, rfl, _, rfl, ite2 (fun c3 => ?_) (fun c3 => ?_)⟩
      · rw [sm_dig (show c0 ∈ dig from of_decide_eq_true c3)]
        exact ⟨_, rfl, rfl, rfl⟩
      · have nd : c0 ∉ dig := fun z => c3 (decide_eq_true z)
        refine ⟨?_, rfl⟩
        unfold smOf
        rw [if_neg nd]
    rintro σ' H' ⟨rfl, rfl⟩
    -- the run
    refine ⟨fun σ' H' => σ' = [some (.str z), some (.ref F), some (.int p), some (.str LET), some (.str FIG), some (.int ((p + 1 + run (tl (smOf c0)) r0 : Nat) : Int)), some (.str (smOf c0)), x7, x8] ∧ H1 = H', ?_, ?_⟩
    · refine ⟨fun m σ H' => H1 = H' ∧ ∃ e : Nat, σ = [some (.str z), some (.ref F), some (.int p), some (.str LET), some (.str FIG), some (.int e), some (.str (smOf c0)), x7, x8] ∧ e ≤ z.length ∧ m = z.length - e ∧ e + run (tl (smOf c0)) ((tl z).drop e) = p + 1 + run (tl (smOf c0)) r0, ⟨z.length - (p + 1), rfl, p + 1, rfl, by omega, rfl, by rw [hd1]⟩, ?_⟩
      rintro m σ H' ⟨rfl, e, rfl, he, rfl, hrun⟩
      refine ⟨_, rfl, _, rfl, z, rfl, sz (by omega), _, _, rfl, rfl, _, rfl, ite2 (fun d1 => ?_) (fun d1 => ?_)⟩
      · have d2 : (e : Int) < (z.length : Int) := of_decide_eq_true d1
        have he2 : e < (tl z).length := by omega
        have hde : (tl z).drop e = (tl z)[e] :: (tl z).drop (e + 1) := List.drop_eq_getElem_cons he2
        refine ⟨_, rfl, _, rfl, z, _, _, rfl, rfl, sz (by omega), at_head hde, _, rfl, _, smOf c0, rfl, rfl, _, rfl, ite2 (fun d3 => ?_) (fun d3 => ?_)⟩
        · have d4 : (tl z)[e] ∈ tl (smOf c0) := of_decide_eq_true d3
          have dn : smOf c0 ≠ "" := fun z => by
            rw [z] at d4
            rw [show tl ("" : Str) = [] by decide +kernel] at d4
            cases d4
          rw [hde, run_in d4] at hrun
          refine ⟨_, rfl, rfl, _, rfl, ite2 (fun _ => ?_) (fun z => absurd (show (!decide (V.str (smOf c0) = V.str "")) = true by rw [decide_eq_false (fun e => dn (V.str.inj e))]; rfl) z)⟩
          refine ⟨_, fun σ' H' z => z, ?_⟩
          refine ⟨_, rfl, _, _, rfl, rfl, ?_⟩
          exact ⟨z.length - (e + 1), by omega, rfl, e + 1, rfl, by omega, rfl, by omega⟩
        · have d4 : (tl z)[e] ∉ tl (smOf c0) := fun z => d3 (decide_eq_true z)
          rw [hde, run_out d4] at hrun
          refine ⟨?_, rfl⟩
          rw [show e = p + 1 + run (tl (smOf c0)) r0 by omega]
      · have d2 : ¬ (e : Int) < (z.length : Int) := fun z => d1 (decide_eq_true z)
        have hde : (tl z).drop e = [] := List.drop_eq_nil_of_le (by omega)
        rw [hde, run_nil] at hrun
        refine iteF ⟨?_, rfl⟩
        rw [show e = p + 1 + run (tl (smOf c0)) r0 by omega]
    rintro σ' H' ⟨rfl, rfl⟩
    refine ⟨fun σ' H' => σ' = [some (.str z), some (.ref F), some (.int p), some (.str LET), some (.str FIG), some (.int ((p + kOf c0 r0 : Nat) : Int)), some (.str (smOf c0)), x7, x8] ∧ H1 = H', ?_, ?_⟩
    · refine ⟨_, rfl, _, rfl, _, rfl, _, rfl, _, 2, rfl, rfl, _, rfl, z, rfl, sz (by omega), ?_⟩
      refine ⟨rfl, _, rfl, ite2 (fun c4 => ?_) (fun c4 => ?_)⟩
      · have e4 := (le_cutB (by omega) hd).mp (V.str.inj (of_decide_eq_true c4))
        refine ⟨_, rfl, _, 2, rfl, rfl, ?_⟩
        refine ⟨?_, rfl⟩
        have ek : kOf c0 r0 = 2 := if_pos e4
        rw [ek]
        rfl
      · have e4 : ¬ leAt c0 r0 := fun h => c4 (decide_eq_true (congrArg V.str ((le_cutB (by omega) hd).mpr h)))
        refine ⟨?_, rfl⟩
        have ek : kOf c0 r0 = 1 + run (tl (smOf c0)) r0 := if_neg e4
        rw [ek, show p + (1 + run (tl (smOf c0)) r0) = p + 1 + run (tl (smOf c0)) r0 by omega]
    rintro σ' H' ⟨rfl, rfl⟩
    have ecut : cutS z (some (p : Int)) (some ((p + kOf c0 r0 : Nat) : Int)) = S ((c0 :: r0).take (kOf c0 r0)) := by rw [cut_takeB (by omega), hd]
    refine ⟨_, rfl, _, rfl, _, rfl, _, rfl, _, rfl, z, rfl, sz (by omega), ?_⟩
    rw [ecut]
    have lone : (S ((c0 :: r0).take (kOf c0 r0))).length = kOf c0 r0 := by rw [len_S, List.length_take, Nat.min_eq_left kp.2]
    have hat : atI (tl (S ((c0 :: r0).take (kOf c0 r0)))) 0 = some c0 := by
      obtain ⟨j, ej⟩ : ∃ j, kOf c0 r0 = j + 1 := ⟨kOf c0 r0 - 1, by omega⟩
      rw [ej]
      exact atI_nat (j := 0) rfl
    have is0 : S ((c0 :: r0).take (kOf c0 r0)) = "0" ↔ (c0 = 48 ∧ kOf c0 r0 = 1) := by
      have e48 : tl ("0" : Str) = [48] := by decide +kernel
      constructor
      · intro h
        have e1 := congrArg tl h
        rw [e48] at e1
        have l1 : kOf c0 r0 = 1 := by
          have := congrArg List.length e1
          rw [tl_S, List.length_take, Nat.min_eq_left kp.2] at this
          exact this
        rw [l1] at e1
        exact ⟨(List.cons.inj (show [c0] = [48] from e1)).1, l1⟩
      · rintro ⟨rfl, h1⟩
        rw [h1]
        show S [48] = "0"
        decide +kernel
    -- good
    refine ⟨fun σ' H' => ∃ g : Bool, σ' = [some (.str z), some (.ref F), some (.int p), some (.str LET), some (.str FIG), some (.int ((p + kOf c0 r0 : Nat) : Int)), some (.str (smOf c0)), some (.str (S ((c0 :: r0).take (kOf c0 r0)))), some (.bl g)] ∧ H1 = H' ∧ (smOf c0 ≠ "" → (g = true → sgLen (c0 :: r0) = some (kOf c0 r0)) ∧ (g = false → sgLen (c0 :: r0) = none)), ?_, ?_⟩
    · by_cases ha : c0 ∈ abc
      · have es := sm_abc ha
        refine ⟨_, rfl, _, rfl, rfl, _, rfl, ite2 (fun _ => ?_) (fun z => absurd (decide_eq_true (congrArg V.str es)) z)⟩
        refine ⟨_, rfl, _, rfl, sz (by omega), _, 9, rfl, rfl, ?_⟩
        refine ⟨_, rfl, rfl, fun _ => ⟨fun h => (sg_abc ha).1 ?_, fun h => (sg_abc ha).2 ?_⟩⟩
        · have h1 : (((S ((c0 :: r0).take (kOf c0 r0))).length : Nat) : Int) < 9 := of_decide_eq_true h
          omega
        · have h1 : ¬ (((S ((c0 :: r0).take (kOf c0 r0))).length : Nat) : Int) < 9 := of_decide_eq_false h
          omega
      · have es : smOf c0 ≠ LET := by
          by_cases hg : c0 ∈ dig
          · rw [sm_dig hg]
            exact let_fig.2.2.1
          · rw [sm_none hg ha]
            exact let_fig.2.2.2
        have fin : ∀ g : Bool, (g = true ↔ (kOf c0 r0 < 3 ∧ (c0 ≠ 48 ∨ kOf c0 r0 = 1))) → (smOf c0 ≠ "" → (g = true → sgLen (c0 :: r0) = some (kOf c0 r0)) ∧ (g = false → sgLen (c0 :: r0) = none)) := fun g hg hne => by
          have hdg : c0 ∈ dig := by
            by_cases h : c0 ∈ dig
            · exact h
            · exact absurd (sm_none h ha) hne
          exact ⟨fun h => (sg_dig hdg).1 (hg.mp h), fun h => (sg_dig hdg).2 (fun z => by rw [hg.mpr z] at h; cases h)⟩
        refine ⟨_, rfl, _, rfl, rfl, _, rfl, ite2 (fun z => absurd (V.str.inj (of_decide_eq_true z)) es) (fun _ => ?_)⟩
        refine ⟨_, rfl, _, rfl, sz (by omega), _, 3, rfl, rfl, _, rfl, ite2 (fun c5 => ?_) (fun c5 => ?_)⟩
        · have c6 : kOf c0 r0 < 3 := by
            have : (((S ((c0 :: r0).take (kOf c0 r0))).length : Nat) : Int) < 3 := of_decide_eq_true c5
            omega
          refine ⟨_, rfl, _, 0, c0, rfl, rfl, sz (by omega), hat, rfl, _, rfl, ite2 (fun c7 => ?_) (fun c7 => ?_)⟩
          · have n48 : c0 ≠ 48 := fun z => not_ne c7 (by rw [z]; decide +kernel)
            exact ⟨_, rfl, rfl, fin _ ⟨fun _ => ⟨c6, .inl n48⟩, fun _ => rfl⟩⟩
          · have e48 : c0 = 48 := one_strB (not_eq c7) (by decide +kernel)
            refine ⟨_, rfl, rfl, ?_⟩
            refine ⟨_, rfl, rfl, fin _ ⟨fun h => ⟨c6, .inr (is0.mp (V.str.inj (of_decide_eq_true h))).2⟩, fun h => decide_eq_true (congrArg V.str (is0.mpr ⟨e48, ?_⟩))⟩⟩
            rcases h.2 with h2 | h2
            · exact absurd e48 h2
            · exact h2
        · have c6 : ¬ kOf c0 r0 < 3 := fun z => by
            refine absurd (decide_eq_true ?_) c5
            show (((S ((c0 :: r0).take (kOf c0 r0))).length : Nat) : Int) < 3
            omega
          exact ⟨false, rfl, rfl, fin _ ⟨(fun h => by cases h), fun h => absurd h.1 c6⟩⟩
    rintro σ' H' ⟨g, rfl, rfl, hg⟩
    -- what is wrong, what is a sign
    have retbad : sgLen (c0 :: r0) = none → c0 ≠ 32 → ∀ H2, Same H1 H2 → Q (.int p) H2 := fun hk n32 H2 s2 => by
      rw [hd, lex_bad n32 hk] at hL
      have hL2 : lexW (tl z) 0 = .bad p := hL.symm
      rw [hL2] at q
      exact q H2 (sm.trans s2)
    obtain ⟨svs, k1, k2, k3⟩ := id hsg
    have nsm : c0 = 32 → smOf c0 = "" := fun h => by rw [h]; exact sm_none blank_32.1 blank_32.2.1
    have blank1 : c0 = 32 → S ((c0 :: r0).take (kOf c0 r0)) = " " := fun h => by
      have ek : kOf c0 r0 = 1 := by
        rw [k_else (by rw [h]; exact blank_32.1) (by rw [h]; exact blank_32.2.1), if_neg (fun z => by have := z.1; omega)]
      rw [ek, h]
      show S [32] = " "
      decide +kernel
    have is32 : S ((c0 :: r0).take (kOf c0 r0)) = " " → c0 = 32 := fun h => by
      have e1 := congrArg tl h
      obtain ⟨j, ej⟩ : ∃ j, kOf c0 r0 = j + 1 := ⟨kOf c0 r0 - 1, by omega⟩
      rw [ej] at e1
      have e3 : tl (" " : Str) = [32] := by decide +kernel
      rw [e3] at e1
      exact (List.cons.inj (show c0 :: r0.take j = [32] from e1)).1
    refine ⟨fun σ' H' => σ' = [some (.str z), some (.ref F), some (.int p), some (.str LET), some (.str FIG), some (.int ((p + kOf c0 r0 : Nat) : Int)), some (.str (smOf c0)), some (.str (S ((c0 :: r0).take (kOf c0 r0)))), some (.bl g)] ∧ Same H1 H' ∧ (c0 = 32 ∨ (c0 ≠ 32 ∧ sgLen (c0 :: r0) = some (kOf c0 r0))), ?_, ?_⟩
    · by_cases hs : smOf c0 = ""
      · have nd : c0 ∉ dig ∧ c0 ∉ abc := ⟨fun h => let_fig.2.1 ((sm_dig h).symm.trans hs), fun h => let_fig.1 ((sm_abc h).symm.trans hs)⟩
        refine ⟨_, rfl, rfl, _, rfl, ite2 (fun _ => ?_) (fun z => absurd (decide_eq_true (congrArg V.str hs)) z)⟩
        refine ⟨_, rfl, (by show 7 ≤ sizeLine; decide), fun l nl => ?_⟩
        have sl := same_new (o := .lst (sevens.map V.str)) nl
        refine ⟨l, _, rfl, .inl (SqL.of upd_same), rfl, rfl, _, rfl, ite2 (fun c => ?_) (fun c => ?_)⟩
        · have c1 : (!inV (.str (S ((c0 :: r0).take (kOf c0 r0)))) (sevens.map V.str)) = true := c
          rw [inV_str] at c1
          have hn : S ((c0 :: r0).take (kOf c0 r0)) ∉ sevens := fun z => by rw [decide_eq_true z] at c1; cases c1
          have n32 : c0 ≠ 32 := fun z => hn (by rw [blank1 z]; decide +kernel)
          exact iteT ⟨_, rfl, retbad ((sg_else nd.1 nd.2 n32).1 hn) n32 _ sl⟩
        · have c1 : (!inV (.str (S ((c0 :: r0).take (kOf c0 r0)))) (sevens.map V.str)) = false := Bool.eq_false_iff.mpr c
          rw [inV_str] at c1
          have hn : S ((c0 :: r0).take (kOf c0 r0)) ∈ sevens := by
            by_cases z : S ((c0 :: r0).take (kOf c0 r0)) ∈ sevens
            · exact z
            · rw [decide_eq_false z] at c1; cases c1
          refine ⟨_, rfl, rfl, _, rfl, ite2 (fun z => absurd hs (not_ne z)) (fun _ => ?_)⟩
          refine ⟨rfl, sl, ?_⟩
          by_cases n32 : c0 = 32
          · exact .inl n32
          · exact .inr ⟨n32, (sg_else nd.1 nd.2 n32).2 hn⟩
      · have n32 : c0 ≠ 32 := fun z => hs (nsm z)
        refine ⟨_, rfl, rfl, _, rfl, ite2 (fun z => absurd (V.str.inj (of_decide_eq_true z)) hs) (fun _ => ?_)⟩
        refine ⟨_, rfl, rfl, _, rfl, ite2 (fun _ => ?_) (fun z => absurd (not_eq z) hs)⟩
        refine ⟨_, rfl, g, rfl, ?_⟩
        cases g with
        | false => exact iteT ⟨_, rfl, retbad ((hg hs).2 rfl) n32 _ (Same.refl _)⟩
        | true => exact iteF ⟨rfl, Same.refl _, .inr ⟨n32, (hg hs).1 rfl⟩⟩
    rintro σ' H2 ⟨rfl, s2, hk⟩
    refine ⟨fun σ' H' => σ' = [some (.str z), some (.ref F), some (.int p), some (.str LET), some (.str FIG), some (.int ((p + kOf c0 r0 : Nat) : Int)), some (.str (smOf c0)), some (.str (S ((c0 :: r0).take (kOf c0 r0)))), some (.bl g)] ∧ Same H H' ∧ ∃ dn', (lexW ((tl z).drop (p + kOf c0 r0)) (p + kOf c0 r0)).pre dn' = lexW (tl z) 0 ∧ dn'.length ≤ p + kOf c0 r0 ∧ SgP H' F dn', ?_, ?_⟩
    · have edrop : (tl z).drop (p + kOf c0 r0) = (c0 :: r0).drop (kOf c0 r0) := by rw [← hd, List.drop_drop]
      rcases hk with h32 | ⟨n32, hk⟩
      · refine ⟨_, rfl, rfl, _, rfl, ite2 (fun z => absurd (blank1 h32) (not_ne z)) (fun _ => ?_)⟩
        have ek : kOf c0 r0 = 1 := by
          rw [k_else (by rw [h32]; exact blank_32.1) (by rw [h32]; exact blank_32.2.1), if_neg (fun z => by have := z.1; omega)]
        refine ⟨rfl, sm.trans s2, dn, ?_, by omega, svs, s2 _ _ k1, k2, fun i y hy => ?_⟩
        · rw [ek, hd1]
          rw [hd, h32, lex_blank] at hL
          exact hL
        · obtain ⟨b, j1, j2⟩ := k3 i y hy
          exact ⟨b, j1, s2 _ _ j2⟩
      · refine ⟨_, rfl, rfl, _, rfl, ite2 (fun _ => ?_) (fun z => absurd (is32 (not_eq z)) n32)⟩
        refine ⟨_, rfl, .inl ⟨rfl, _, SqL.of (s2 _ _ k1)⟩, _, rfl, _, rfl, (by show 2 ≤ sizeLine; decide), fun t nt => ?_⟩
        have st := same_new (o := .tup [.str (S ((c0 :: r0).take (kOf c0 r0))), .int p]) nt
        refine ⟨F, svs, .ref t, rfl, rfl, st _ _ (s2 _ _ k1), szl (by omega), ?_⟩
        have ntF : t ≠ F := (ne_of_none (s2 _ _ k1) nt).symm
        have s12 := s2.trans st
        have i2 : Imm H1 (upd (upd H2 t (.tup [.str (S ((c0 :: r0).take (kOf c0 r0))), .int p])) F (.lst (svs ++ [.ref t]))) := (Imm.same s12).upd fun xs e => by rw [k1] at e; cases e
        refine ⟨rfl, Same.upd_new (sm.trans s12) nF, dn ++ [(S ((c0 :: r0).take (kOf c0 r0)), p)], ?_, by rw [List.length_append]; show dn.length + 1 ≤ _; omega, sgp_snocB k2 k3 i2 upd_same (by rw [upd_ne ntF, upd_same])⟩
        rw [hd, lex_sign n32 hk kp.1, pre_pre] at hL
        rw [edrop]
        exact hL
    rintro σ' H3 ⟨rfl, s3, dn', hL3, hdl3, hsg3⟩
    rw [List.length_cons] at hlen kp
    refine ⟨_, rfl, ?_⟩
    exact ⟨z.length - (p + kOf c0 r0), by omega, s3, p + kOf c0 r0, dn', _, _, _, _, rfl, by omega, rfl, hL3, hdl3, hsg3⟩
  · have c2 : ¬ (p : Int) < (z.length : Int) := fun z => c1 (decide_eq_true z)
    have hd : (tl z).drop p = [] := List.drop_eq_nil_of_le (by omega)
    rw [hd, lex_nil] at hL
    have hL2 : lexW (tl z) 0 = .ok (dn ++ []) := hL.symm
    rw [hL2, List.append_nil] at q
    obtain ⟨svs, k1, k2, k3⟩ := hsg
    refine ⟨_, rfl, _, rfl, z, rfl, sz (by omega), (by show 2 ≤ sizeLine; decide), fun t nt => ?_⟩
    refine ⟨(by show 1 ≤ sizeLine; decide), fun l nl => ?_⟩
    have st := same_new (o := .tup [.str "", .int (z.length : Int)]) nt
    have sl := same_new (o := .lst [.ref t]) nl
    refine ⟨F, l, svs, [.ref t], rfl, rfl, sl _ _ (st _ _ k1), upd_same, ?_, fun a na => ?_⟩
    · rw [k2]
      show dn.length + 1 ≤ sizeLine
      exact sz (by omega)
    have sa := same_new (o := .lst (svs ++ [.ref t])) na
    have s1a := (st.trans sl).trans sa
    exact q a _ (sm.trans s1a) ((sm.trans (st.trans sl)).free na) (sgp_snocB k2 k3 (Imm.same s1a) upd_same (sa _ _ (sl _ _ upd_same)))
end
end K05

set_option Elab.async false
set_option linter.all false
set_option maxRecDepth 100000
set_option maxHeartbeats 4000000
namespace K05
open PySem PySem.Spec PyProof.Rows L2 OG
open C8 (pss_cut pe_gc)
open OGX

section
variable {P : Program} {w : World} {K : PySem.W.Frag} {mg : Str → Option Value} {base : Heap}
theorem ok_l_is_name (T : Tops w K mg) : FnOk P w K mg base CX0 2 T.fl_is_name T.dl_is_name ["_law_word"] spName := by
  have Gl_kept_words : FnOk P w K mg base CX0 1 T.fl_kept_words T.dl_kept_words [] spKept := ok_kept T
  refine T.Fl_is_name.ok scl_is_name (fun vs H Q E h => ?_) (fun cdv A outer s H vs Q E hr h => ?_)
  · obtain ⟨z, rfl, _⟩ := h
    rfl
  obtain ⟨z, rfl, hz, q⟩ := h
  refine ⟨_, (pss_cut (ps_set (i := 1) scl_is_name.nd rfl (Or.inl rfl) (pe_and (pe_chain op_le op_le pe_int (pe_callB call_len_str (by rfl) T.mlen PySem.boot_len (pa_cons (pv 0) pa_nil)) pe_int) (pe_one (pe_cmpR op_notIn_seq (pv 0) (pe_call0 Gl_kept_words (hr.mono (by omega)) (by rfl) T.gl_kept_words T.Fl_kept_words.kp T.bl_kept_words .nil pass0) (by rfl)))))
 (pss_one (ps_ret (pe_and (pv 1) (pe_one (pe_callB (cr_all rfl) (by rfl) T.mall (by decide +kernel) (pa_cons (pe_lc (own := [("_law_sign", 2)]) rfl scl_is_name.nd (pi_str (pv 0)) (blkOk_by (N := Nl_is_name) (sc := defScope sl_is_name) (by decide +kernel)) (fun _ _ _ _ _ => (pg_name (i := 2) scl_is_name.nd rfl (Or.inl rfl))) (fun _ _ _ _ _ => pts_nil) (fun _ _ _ _ _ => (pe_cmpR op_in_sign (pv 2) pe_str (by rfl)))) pa_nil))))))), ?_⟩
  refine ⟨fun σ' H' => σ' = [some (.str z), some (.bl (!inV (.str z) (kept.map V.str) && (decide ((1 : Int) ≤ (z.length : Int)) && decide ((z.length : Int) ≤ 8)))), none] ∧ Same H H', ?_, ?_⟩
  · refine ⟨_, rfl, z, rfl, sz (by omega), 1, _, rfl, rfl, _, rfl, ite2 (fun c3 => ?_) (fun c3 => ?_)⟩
    · refine ⟨_, 8, rfl, rfl, _, rfl, ite2 (fun c4 => ?_) (fun c4 => ?_)⟩
      · refine ⟨_, rfl, rfl, fun p H' np e => ?_⟩
        subst e
        refine ⟨p, _, rfl, .inl (SqL.of upd_same), rfl, rfl, ?_⟩
        rw [c3, c4]
        refine ⟨?_, same_new np⟩
        cases inV (.str z) (kept.map V.str) <;> rfl
      · have c5 : decide ((z.length : Int) ≤ 8) = false := Bool.eq_false_iff.mpr c4
        rw [c5, Bool.and_false, Bool.and_false]
        exact ⟨rfl, Same.refl H⟩
    · have c5 : decide ((1 : Int) ≤ (z.length : Int)) = false := Bool.eq_false_iff.mpr c3
      refine ⟨_, rfl, iteF ?_⟩
      rw [c5, Bool.false_and, Bool.and_false]
      exact ⟨rfl, Same.refl H⟩
  · rintro σ' H' ⟨rfl, sm⟩
    refine ⟨_, rfl, _, rfl, ite2 (fun c1 => ?_) (fun c1 => ?_)⟩
    · refine ⟨_, rfl, z, rfl, fun D nD => ?_⟩
      refine lc_str_val (fun c => .bl (decide (c ∈ tl "abcdefghijklmnopqrstuvwxyz"))) 2 rfl (fun v => rfl) hz nD (fun c _ H2 Q2 _ h => ⟨_, rfl, c, _, rfl, rfl, h⟩) (fun H2 sm2 hl => ?_)
      refine ⟨D, (tl z).map (fun c => decide (c ∈ tl "abcdefghijklmnopqrstuvwxyz")), rfl, SqL.of (by rw [List.map_map]; exact hl), ?_⟩
      have e : nameB z = ((tl z).map (fun c => decide (c ∈ tl "abcdefghijklmnopqrstuvwxyz"))).all id := by
        unfold nameB
        rw [c1, Bool.true_and]
      rw [← e]
      exact q H2 (sm.trans sm2)
    · have c2 := Bool.eq_false_iff.mpr c1
      have e : nameB z = false := by
        unfold nameB
        rw [c2, Bool.false_and]
      have q2 := q H' sm
      rw [e] at q2
      exact q2
theorem ok_figure (T : Tops w K mg) : FnOk P w K mg base CX0 1 T.fl_figure T.dl_figure ["_law_word", "_law_low", "_law_high"] spFig := by
  refine T.Fl_figure.ok (k := 0) scl_figure (fun vs H Q E h => ?_) (fun cdv A outer s H vs Q E hr h => ?_)
  · obtain ⟨z, lo, hi, rfl, _⟩ := h
    rfl
  obtain ⟨z, lo, hi, rfl, hT, q⟩ := h
  refine ⟨_, (pss_one (ps_ret (pe_and (pe_cmpR op_ne (pv 0) pe_str (nomark _)) (pe_and (pe_callB (cr_all rfl) (by rfl) T.mall (by decide +kernel) (pa_cons (pe_lc (own := [("_law_sign", 3)]) rfl scl_figure.nd (pi_str (pv 0)) (blkOk_by (N := Nl_figure) (sc := defScope sl_figure) (by decide +kernel)) (fun _ _ _ _ _ => (pg_name (i := 3) scl_figure.nd rfl (Or.inl rfl))) (fun _ _ _ _ _ => pts_nil) (fun _ _ _ _ _ => (pe_cmpR op_in_sign (pv 3) pe_str (by rfl)))) pa_nil)) (pe_one (pe_chain op_le op_le (pv 1) (pe_callTy call_int_str (by rfl) T.mint (by decide +kernel) (pa_cons (pv 0) pa_nil)) (pv 2))))))), ?_⟩
  have hl := hT.len
  rcases hT.split with ⟨k, k0, k9, hn, hd, hi2, hne, hall⟩ | ⟨hn, hd, hor⟩
  · have ef : figB z lo hi = decide (lo ≤ k ∧ k ≤ hi) := by unfold figB; rw [hn]
    rw [ef] at q
    refine ⟨_, rfl, rfl, _, rfl, ite2 (fun _ => ?_) (fun c => absurd (not_eq c) hne)⟩
    refine ⟨_, rfl, z, rfl, fun D nD => ?_⟩
    refine lc_str_val (fun c => .bl (decide (c ∈ tl "0123456789"))) 3 rfl (fun v => rfl) (by omega) nD (fun c _ H2 Q2 _ h => ⟨_, rfl, c, _, rfl, rfl, h⟩) (fun H2 sm2 hl2 => ?_)
    refine ⟨D, (tl z).map (fun c => decide (c ∈ tl "0123456789")), rfl, SqL.of (by rw [List.map_map]; exact hl2), ?_⟩
    have ea : ((tl z).map (fun c => decide (c ∈ tl "0123456789"))).all id = true := hall
    rw [ea]
    refine ⟨_, rfl, ite2 (fun _ => ?_) (fun c => absurd rfl c)⟩
    refine ⟨_, rfl, _, rfl, _, k, rfl, hi2, by omega, lo, k, rfl, rfl, _, rfl, ite2 (fun c => ?_) (fun c => ?_)⟩
    · have c1 : lo ≤ k := of_decide_eq_true c
      refine ⟨_, rfl, k, hi, rfl, rfl, ?_⟩
      have eb : decide (lo ≤ k ∧ k ≤ hi) = decide (k ≤ hi) := by
        by_cases c2 : k ≤ hi
        · rw [decide_eq_true c2, decide_eq_true ⟨c1, c2⟩]
        · rw [decide_eq_false c2, decide_eq_false (fun z => c2 z.2)]
      rw [eb] at q
      exact q H2 sm2
    · have c1 : ¬ lo ≤ k := fun z => c (decide_eq_true z)
      rw [decide_eq_false (fun z => c1 z.1)] at q
      exact q H2 sm2
  · have ef : figB z lo hi = false := by unfold figB; rw [hn]
    rw [ef] at q
    refine ⟨_, rfl, rfl, _, rfl, ite2 (fun c => ?_) (fun c => ?_)⟩
    · have hne := not_ne c
      have hall := hor.resolve_left hne
      refine ⟨_, rfl, z, rfl, fun D nD => ?_⟩
      refine lc_str_val (fun c => .bl (decide (c ∈ tl "0123456789"))) 3 rfl (fun v => rfl) (by omega) nD (fun c _ H2 Q2 _ h => ⟨_, rfl, c, _, rfl, rfl, h⟩) (fun H2 sm2 hl2 => ?_)
      refine ⟨D, (tl z).map (fun c => decide (c ∈ tl "0123456789")), rfl, SqL.of (by rw [List.map_map]; exact hl2), ?_⟩
      have ea : ((tl z).map (fun c => decide (c ∈ tl "0123456789"))).all id = false := hall
      rw [ea]
      exact ⟨_, rfl, ite2 (fun c => absurd c (by decide)) (fun _ => q H2 sm2)⟩
    · exact q H (Same.refl H)
theorem fig_true {z : Str} {lo hi : Int} (h : figB z lo hi = true) : ∃ k, numOf z = some k ∧ lo ≤ k ∧ k ≤ hi := by
  unfold figB at h
  split at h
  · rename_i k hk
    have := of_decide_eq_true h
    exact ⟨k, hk, this.1, this.2⟩
  · cases h
theorem fig_false {z : Str} {lo hi : Int} (h : ¬ figB z lo hi = true) : ∀ k, numOf z = some k → ¬ (lo ≤ k ∧ k ≤ hi) := fun k hk z => by
  unfold figB at h
  rw [hk] at h
  exact h (decide_eq_true z)
theorem ok_l_read_end (T : Tops w K mg) : FnOk P w K mg base CX0 3 T.fl_read_end T.dl_read_end ["_law_signs", "_law_at"] spLEnd := by
  have Gl_figure : FnOk P w K mg base CX0 1 T.fl_figure T.dl_figure ["_law_word", "_law_low", "_law_high"] spFig := ok_figure T
  have Gl_is_name : FnOk P w K mg base CX0 2 T.fl_is_name T.dl_is_name ["_law_word"] spName := ok_l_is_name T
  refine T.Fl_read_end.ok (k := 2) scl_read_end (fun vs H Q E h => ?_) (fun cdv A outer s H vs Q E hr h => ?_)
  · obtain ⟨a, sg, p, rfl, _⟩ := h
    rfl
  obtain ⟨a, sg, p, rfl, hL, hok, hp, _, q⟩ := h
  replace q : ∀ v H', Same H H' → TelL vE (pEnd sg p 0) v H' → Q v H' := q
  refine ⟨_, (pss_cons (ps_set (i := 2) scl_read_end.nd rfl (Or.inl rfl) (pe_ix ix_tup (pe_ix ix_list (pv 0) (pv 1) (fun _ _ => rfl)) pe_int (fun _ _ => rfl)))
 (pss_cons (ps_if (pt_val (pe_call Gl_figure (hr.mono (by omega)) (by rfl) T.gl_figure T.Fl_figure.kp T.bl_figure .nil pass0 (pa_cons (pv 2) (pa_cons pe_int (pa_cons pe_int pa_nil)))))
  (pss_one (ps_ret (pe_tup (pa_cons (pe_tup (pa_cons pe_str (pa_cons (pe_callTy call_int_str (by rfl) T.mint (by decide +kernel) (pa_cons (pv 2) pa_nil)) pa_nil))) (pa_cons (pe_op op_add (pv 1) pe_int) pa_nil)))))
  pss_nil)
 (pss_cut (ps_if (PW.pt (pw_and (pt_cmpR op_ne (pv 2) pe_str (nomark _)) (pw_and1 (pt_not (pt_val (pe_call Gl_is_name (hr.mono (by omega)) (by rfl) T.gl_is_name T.Fl_is_name.kp T.bl_is_name .nil pass0 (pa_cons (pv 2) pa_nil)))))))
  (pss_one (ps_ret (pe_tup (pa_cons pe_non (pa_cons (pv 1) pa_nil)))))
  pss_nil)
 (pss_cons (ps_if (pt_cmpR op_notIn_seq (pe_ix ix_tup (pe_ix ix_list (pv 0) (pe_op op_add (pv 1) pe_int) (fun _ _ => rfl)) pe_int (fun _ _ => rfl)) (pe_lst (pa_cons pe_str (pa_cons pe_str pa_nil))) (by rfl))
  (pss_one (ps_ret (pe_tup (pa_cons (pe_tup (pa_cons (pv 2) (pa_cons pe_int pa_nil))) (pa_cons (pe_op op_add (pv 1) pe_int) pa_nil)))))
  pss_nil)
 (pss_cons (ps_if (pt_not (pt_val (pe_call Gl_figure (hr.mono (by omega)) (by rfl) T.gl_figure T.Fl_figure.kp T.bl_figure .nil pass0 (pa_cons (pe_ix ix_tup (pe_ix ix_list (pv 0) (pe_op op_add (pv 1) pe_int) (fun _ _ => rfl)) pe_int (fun _ _ => rfl)) (pa_cons pe_int (pa_cons pe_int pa_nil))))))
  (pss_one (ps_ret (pe_tup (pa_cons pe_non (pa_cons (pe_op op_add (pv 1) pe_int) pa_nil)))))
  pss_nil)
 (pss_one (ps_ret (pe_tup (pa_cons (pe_tup (pa_cons (pv 2) (pa_cons (pe_op op_mul (pe_callTy call_int_str (by rfl) T.mint (by decide +kernel) (pa_cons (pe_ix ix_tup (pe_ix ix_list (pv 0) (pe_op op_add (pv 1) pe_int) (fun _ _ => rfl)) pe_int (fun _ _ => rfl)) pa_nil)) (pe_ix ix_list (pe_lst (pa_cons pe_int (pa_cons (pe_un un_neg pe_int) pa_nil))) (pe_callTy call_int1 (by rfl) T.mint (by decide +kernel) (pa_cons (pe_cmpR op_eq (pe_ix ix_tup (pe_ix ix_list (pv 0) (pe_op op_add (pv 1) pe_int) (fun _ _ => rfl)) pe_int (fun _ _ => rfl)) pe_str (nomark _)) pa_nil)) (fun _ _ => rfl))) pa_nil))) (pa_cons (pe_op op_add (pv 1) pe_int) pa_nil)))))))))), ?_⟩
  have tk := (tok_cases hok p).1
  have tl8 := tk.len
  obtain ⟨svs0, b0, n0, l0, e0, t0⟩ := (hL).at (i := p) (by omega)
  refine ⟨_, rfl, _, rfl, a, svs0, (p : Int), _, rfl, rfl, SqL.of l0, atI_nat (j := p) e0, b0, _, 0, _, rfl, rfl, SqT.of t0, rfl, ?_⟩
  refine ⟨_, rfl, tok sg p, 0, 99, rfl, tk, fun H1 s1 => ?_⟩
  refine ⟨_, rfl, ite2 (fun c => ?_) (fun c => ?_)⟩
  · obtain ⟨k, hk, k0, k9⟩ := fig_true c
    have nx := num_next hok hk
    have ep : pEnd sg p 0 = .ok ("", k) (p + 1) 0 := by unfold pEnd; rw [hk]
    rw [ep] at q
    refine ⟨_, rfl, _, k, rfl, nx.2.2.2, by omega, (by show 2 ≤ sizeLine; decide), fun t1 n1 => ⟨_, rfl, (p : Int), 1, rfl, rfl, (by show 2 ≤ sizeLine; decide), fun t2 n2 => ?_⟩⟩
    have st1 := same_new (o := .tup [.str "", .int k]) n1
    have st2 := same_new (o := .tup [.ref t1, .int ((p : Int) + 1)]) n2
    exact q _ _ (s1.trans (st1.trans st2)) ⟨t2, .ref t1, rfl, upd_same, rp_tup (st2 _ _ upd_same) (rpl_cons rfl (rpl_cons rfl rpl_nil)), fun z => by cases z⟩
  have hnum : numOf (tok sg p) = none := by
    cases hk : numOf (tok sg p) with
    | none => rfl
    | some k =>
      have nx := num_next hok hk
      exact absurd ⟨nx.2.1, nx.2.2.1⟩ (fig_false c k hk)
  refine ⟨fun σ' H' => σ' = [some (.ref a), some (.int p), some (.str (tok sg p))] ∧ Same H H' ∧ (tok sg p = "n" ∨ nameB (tok sg p) = true), ?_, ?_⟩
  · refine ⟨_, rfl, rfl, _, rfl, ite2 (fun c1 => ?_) (fun c1 => ?_)⟩
    · have n1 := not_ne c1
      refine ⟨_, rfl, tok sg p, rfl, by omega, fun H2 s2 => ?_⟩
      refine ⟨_, rfl, ite2 (fun z => ?_) (fun z => ?_)⟩
      · have hn : ¬ nameB (tok sg p) = true := fun y => by rw [y] at z; cases z
        have ep : pEnd sg p 0 = .bad p := by
          unfold pEnd
          rw [hnum]
          exact if_neg (fun z => z.elim n1 hn)
        rw [ep] at q
        refine ⟨_, rfl, (by show 2 ≤ sizeLine; decide), fun t2 n2 => ?_⟩
        exact q _ _ ((s1.trans s2).trans (same_new n2)) ⟨t2, .non, rfl, upd_same, rfl⟩
      · have hn : nameB (tok sg p) = true := by
          cases hb : nameB (tok sg p) with
          | true => rfl
          | false => rw [hb] at z; exact absurd rfl z
        exact ⟨rfl, s1.trans s2, .inr hn⟩
    · exact ⟨rfl, s1, .inl (not_eq c1)⟩
  rintro σ' H2 ⟨rfl, s2, hnm⟩
  have nx := name_next hok hnm
  have hL2 := hL.same s2
  obtain ⟨svs1, b1, n1, l1, e1, t1⟩ := (hL2).at (i := p + 1) (by omega)
  refine ⟨_, rfl, _, rfl, (p : Int), 1, rfl, rfl, a, svs1, _, _, rfl, rfl, SqL.of l1, atI_nat (j := p + 1) e1, b1, _, 0, _, rfl, rfl, SqT.of t1, rfl, (by show 2 ≤ sizeLine; decide), fun l nl => ?_⟩
  have sl := same_new (o := .lst [.str "+", .str "-"]) nl
  refine ⟨l, _, rfl, .inl (SqL.of upd_same), rfl, rfl, _, rfl, ite2 (fun c2 => ?_) (fun c2 => ?_)⟩
  · have c3 : (!inV (.str (tok sg (p + 1))) ((["+", "-"] : List Str).map V.str)) = true := c2
    rw [inV_str] at c3
    have hin : ¬ (tok sg (p + 1) = "+" ∨ tok sg (p + 1) = "-") := fun z => by
      have : tok sg (p + 1) ∈ (["+", "-"] : List Str) := by
        simp only [List.mem_cons, List.not_mem_nil, or_false]
        exact z
      rw [decide_eq_true this] at c3
      cases c3
    have ep : pEnd sg p 0 = .ok (tok sg p, 0) (p + 1) 0 := by
      unfold pEnd
      rw [hnum]
      dsimp only
      rw [if_pos hnm, if_neg hin]
    rw [ep] at q
    refine ⟨_, rfl, (by show 2 ≤ sizeLine; decide), fun t1 n1 => ⟨_, rfl, (p : Int), 1, rfl, rfl, (by show 2 ≤ sizeLine; decide), fun t2 n2 => ?_⟩⟩
    have st1 := same_new (o := .tup [.str (tok sg p), .int 0]) n1
    have st2 := same_new (o := .tup [.ref t1, .int ((p : Int) + 1)]) n2
    exact q _ _ ((s2.trans sl).trans (st1.trans st2)) ⟨t2, .ref t1, rfl, upd_same, rp_tup (st2 _ _ upd_same) (rpl_cons rfl (rpl_cons rfl rpl_nil)), fun z => by cases z⟩
  have c3 : (!inV (.str (tok sg (p + 1))) ((["+", "-"] : List Str).map V.str)) = false := Bool.eq_false_iff.mpr c2
  rw [inV_str] at c3
  have hin : tok sg (p + 1) = "+" ∨ tok sg (p + 1) = "-" := by
    by_cases z : tok sg (p + 1) ∈ (["+", "-"] : List Str)
    · simpa only [List.mem_cons, List.not_mem_nil, or_false] using z
    · rw [decide_eq_false z] at c3
      cases c3
  have nx2 : p + 1 + 1 < sg.length := by
    rcases hin with z | z
    · exact next_of hok z (by decide +kernel)
    · exact next_of hok z (by decide +kernel)
  have ep0 : pEnd sg p 0 = (pNum sg 1 99 (p + 2) 0).bind fun k p' th' => .ok (tok sg p, if tok sg (p + 1) = "+" then k else -k) p' th' := by
    unfold pEnd
    rw [hnum]
    dsimp only
    rw [if_pos hnm, if_pos hin]
  have s3 := s2.trans sl
  have hL3 := hL.same s3
  obtain ⟨svs2, b2, n2, l2, e2, t2⟩ := (hL3).at (i := p + 2) (by omega)
  refine ⟨_, rfl, _, rfl, (p : Int), 2, rfl, rfl, a, svs2, _, _, rfl, rfl, SqL.of l2, atI_nat (j := p + 2) e2, b2, _, 0, _, rfl, rfl, SqT.of t2, rfl, tok sg (p + 2), 1, 99, rfl, (tok_cases hok (p + 2)).1, fun H4 s4 => ?_⟩
  have s34 := s3.trans s4
  refine ⟨_, rfl, ite2 (fun z => ?_) (fun z => ?_)⟩
  rotate_left
  · have hf : figB (tok sg (p + 2)) 1 99 = true := by
      cases hb : figB (tok sg (p + 2)) 1 99 with
      | true => rfl
      | false => rw [hb] at z; exact absurd rfl z
    obtain ⟨k, hk, k1, k9⟩ := fig_true hf
    have nk := num_next hok hk
    have tl82 := (tok_cases hok (p + 2)).1.len
    have en : pNum sg 1 99 (p + 2) 0 = .ok k (p + 3) 0 := by
      unfold pNum
      rw [hk]
      exact if_pos ⟨k1, k9⟩
    rw [ep0, en] at q
    have hL4 := hL.same s34
    clear e1 t1 l1 e2 t2 l2
    obtain ⟨svs2, b2, n2, l2, e2, t2⟩ := hL4.at (i := p + 2) (by omega)
    refine ⟨_, rfl, _, rfl, _, rfl, (p : Int), 2, rfl, rfl, a, svs2, _, _, rfl, rfl, SqL.of l2, atI_nat (j := p + 2) e2, b2, _, 0, _, rfl, rfl, SqT.of t2, rfl, _, k, rfl, nk.2.2.2, by omega, 1, rfl, (by show 2 ≤ sizeLine; decide), fun lm nlm => ?_⟩
    have slm := same_new (o := .lst [.int 1, .int (-1)]) nlm
    have s5 := s34.trans slm
    obtain ⟨svs1, b1, n1, l1, e1, t1⟩ := (hL.same s5).at (i := p + 1) (by omega)
    refine ⟨_, rfl, _, rfl, (p : Int), 1, rfl, rfl, a, svs1, _, _, rfl, rfl, SqL.of l1, atI_nat (j := p + 1) e1, b1, _, 0, _, rfl, rfl, SqT.of t1, rfl, rfl, ?_⟩
    by_cases hs : tok sg (p + 1) = "-"
    · have hp' : ¬ tok sg (p + 1) = "+" := fun z => by rw [z] at hs; exact absurd hs (by decide +kernel)
      refine .inr ⟨true, congrArg (fun b => [V.bl b]) (decide_eq_true (congrArg V.str hs)), ?_⟩
      refine ⟨lm, _, _, .int (-1), rfl, rfl, SqL.of upd_same, rfl, ?_⟩
      refine ⟨_, _, rfl, rfl, .inr ⟨by decide, by decide⟩, (by show 2 ≤ sizeLine; decide), fun t3 n3 => ⟨_, rfl, (p : Int), 3, rfl, rfl, (by show 2 ≤ sizeLine; decide), fun t4 n4 => ?_⟩⟩
      have st3 := same_new (o := .tup [.str (tok sg p), .int (k * -1)]) n3
      have st4 := same_new (o := .tup [.ref t3, .int ((p : Int) + 3)]) n4
      refine q _ _ (s5.trans (st3.trans st4)) ⟨t4, .ref t3, rfl, upd_same, rp_tup (st4 _ _ upd_same) (rpl_cons rfl (rpl_cons ?_ rpl_nil)), fun z => by cases z⟩
      rw [if_neg hp']
      show V.int (k * -1) = V.int (-k)
      rw [Int.mul_neg, Int.mul_one]
    · have hp' : tok sg (p + 1) = "+" := hin.resolve_right hs
      refine .inr ⟨false, congrArg (fun b => [V.bl b]) (decide_eq_false (fun z => hs (V.str.inj z))), ?_⟩
      refine ⟨lm, _, _, .int 1, rfl, rfl, SqL.of upd_same, rfl, ?_⟩
      refine ⟨_, _, rfl, rfl, .inr ⟨by decide, by decide⟩, (by show 2 ≤ sizeLine; decide), fun t3 n3 => ⟨_, rfl, (p : Int), 3, rfl, rfl, (by show 2 ≤ sizeLine; decide), fun t4 n4 => ?_⟩⟩
      have st3 := same_new (o := .tup [.str (tok sg p), .int (k * 1)]) n3
      have st4 := same_new (o := .tup [.ref t3, .int ((p : Int) + 3)]) n4
      refine q _ _ (s5.trans (st3.trans st4)) ⟨t4, .ref t3, rfl, upd_same, rp_tup (st4 _ _ upd_same) (rpl_cons rfl (rpl_cons ?_ rpl_nil)), fun z => by cases z⟩
      rw [if_pos hp']
      show V.int (k * 1) = V.int k
      rw [Int.mul_one]
  · have hf : ¬ figB (tok sg (p + 2)) 1 99 = true := fun y => by rw [y] at z; cases z
    have en : pNum sg 1 99 (p + 2) 0 = .bad (p + 2) := by
      unfold pNum
      cases hk : numOf (tok sg (p + 2)) with
      | none => rfl
      | some k => exact if_neg (fig_false hf k hk)
    rw [ep0, en] at q
    refine ⟨_, rfl, (p : Int), 2, rfl, rfl, (by show 2 ≤ sizeLine; decide), fun t5 n5 => ?_⟩
    exact q _ _ (s34.trans (same_new n5)) ⟨t5, .non, rfl, upd_same, rfl⟩
theorem not_true {b : Bool} (h : (!b) = true) : ¬ b = true := fun z => by rw [z] at h; cases h
theorem not_false {b : Bool} (h : ¬ (!b) = true) : b = true := by
  cases b with
  | true => rfl
  | false => exact absurd rfl h
theorem ok_l_read_leaf (T : Tops w K mg) : FnOk P w K mg base CX0 4 T.fl_read_leaf T.dl_read_leaf ["_law_signs", "_law_at"] spLLeaf := by
  have Gl_figure : FnOk P w K mg base CX0 1 T.fl_figure T.dl_figure ["_law_word", "_law_low", "_law_high"] spFig := ok_figure T
  have Gl_is_name : FnOk P w K mg base CX0 2 T.fl_is_name T.dl_is_name ["_law_word"] spName := ok_l_is_name T
  have Gl_read_end : FnOk P w K mg base CX0 3 T.fl_read_end T.dl_read_end ["_law_signs", "_law_at"] spLEnd := ok_l_read_end T
  refine T.Fl_read_leaf.ok (k := 3) scl_read_leaf (fun vs H Q E h => ?_) (fun cdv A outer s H vs Q E hr h => ?_)
  · obtain ⟨a, sg, p, rfl, _⟩ := h
    rfl
  obtain ⟨a, sg, p, rfl, hL, hok, hp, hk, q⟩ := h
  replace q : ∀ v H', Same H H' → TelL vT (pRest sg (fun p _ => .bad p) (tok sg p) (p + 1) 0) v H' → Q v H' := q
  refine ⟨_, (pss_cons (ps_set (i := 2) scl_read_leaf.nd rfl (Or.inl rfl) (pe_ix ix_tup (pe_ix ix_list (pv 0) (pv 1) (fun _ _ => rfl)) pe_int (fun _ _ => rfl)))
 (pss_cons (ps_if (pt_cmpR op_eq (pv 2) pe_str (nomark _))
  (pss_cons (ps_set (i := 3) scl_read_leaf.nd rfl (Or.inl rfl) (pe_call Gl_figure (hr.mono (by omega)) (by rfl) T.gl_figure T.Fl_figure.kp T.bl_figure .nil pass0 (pa_cons (pe_ix ix_tup (pe_ix ix_list (pv 0) (pe_op op_add (pv 1) pe_int) (fun _ _ => rfl)) pe_int (fun _ _ => rfl)) (pa_cons pe_int (pa_cons pe_int pa_nil)))))
 (pss_one (ps_ret (pe_ifExp (pt_val (pv 3)) (pe_tup (pa_cons (pe_tup (pa_cons pe_str (pa_cons (pe_callTy call_int_str (by rfl) T.mint (by decide +kernel) (pa_cons (pe_ix ix_tup (pe_ix ix_list (pv 0) (pe_op op_add (pv 1) pe_int) (fun _ _ => rfl)) pe_int (fun _ _ => rfl)) pa_nil)) pa_nil))) (pa_cons (pe_op op_add (pv 1) pe_int) pa_nil))) (pe_tup (pa_cons pe_non (pa_cons (pe_op op_add (pv 1) pe_int) pa_nil)))))))
  pss_nil)
 (pss_cons (ps_if (pt_cmpR op_eq (pv 2) pe_str (nomark _))
  (pss_cons (ps_if (PW.pt (pw_or (pt_not (pt_val (pe_call Gl_is_name (hr.mono (by omega)) (by rfl) T.gl_is_name T.Fl_is_name.kp T.bl_is_name .nil pass0 (pa_cons (pe_ix ix_tup (pe_ix ix_list (pv 0) (pe_op op_add (pv 1) pe_int) (fun _ _ => rfl)) pe_int (fun _ _ => rfl)) pa_nil)))) (pw_or1 (pt_cmpR op_ne (pe_ix ix_tup (pe_ix ix_list (pv 0) (pe_op op_add (pv 1) pe_int) (fun _ _ => rfl)) pe_int (fun _ _ => rfl)) pe_str (nomark _)))))
  (pss_one (ps_ret (pe_tup (pa_cons pe_non (pa_cons (pe_op op_add (pe_op op_add (pv 1) pe_int) (pe_callTy call_int1 (by rfl) T.mint (by decide +kernel) (pa_cons (pe_call Gl_is_name (hr.mono (by omega)) (by rfl) T.gl_is_name T.Fl_is_name.kp T.bl_is_name .nil pass0 (pa_cons (pe_ix ix_tup (pe_ix ix_list (pv 0) (pe_op op_add (pv 1) pe_int) (fun _ _ => rfl)) pe_int (fun _ _ => rfl)) pa_nil)) pa_nil))) pa_nil)))))
  pss_nil)
 (pss_cons (ps_asg (pe_call Gl_read_end (hr.mono (by omega)) (by rfl) T.gl_read_end T.Fl_read_end.kp T.bl_read_end .nil pass0 (pa_cons (pv 0) (pa_cons (pe_op op_add (pv 1) pe_int) pa_nil))) (pg_tup rfl (pgs_cons (pg_name (i := 4) scl_read_leaf.nd rfl (Or.inl rfl)) (pgs_cons (pg_name (i := 5) scl_read_leaf.nd rfl (Or.inl rfl)) pgs_nil))))
 (pss_one (ps_ret (pe_ifExp (pt_cmpR op_isN (pv 4) pe_non (nomark _)) (pe_tup (pa_cons pe_non (pa_cons (pv 5) pa_nil))) (pe_tup (pa_cons (pe_tup (pa_cons pe_str (pa_cons (pe_ix ix_tup (pe_ix ix_list (pv 0) (pe_op op_add (pv 1) pe_int) (fun _ _ => rfl)) pe_int (fun _ _ => rfl)) (pa_cons (pv 4) pa_nil)))) (pa_cons (pv 5) pa_nil))))))))
  pss_nil)
 (pss_cons (ps_if (pt_not (pt_val (pe_call Gl_figure (hr.mono (by omega)) (by rfl) T.gl_figure T.Fl_figure.kp T.bl_figure .nil pass0 (pa_cons (pe_ix ix_tup (pe_ix ix_list (pv 0) (pe_op op_add (pv 1) pe_int) (fun _ _ => rfl)) pe_int (fun _ _ => rfl)) (pa_cons pe_int (pa_cons pe_int pa_nil))))))
  (pss_one (ps_ret (pe_tup (pa_cons pe_non (pa_cons (pe_op op_add (pv 1) pe_int) pa_nil)))))
  pss_nil)
 (pss_cons (ps_if (PW.pt (pw_or (pt_cmpR op_ne (pe_ix ix_tup (pe_ix ix_list (pv 0) (pe_op op_add (pv 1) pe_int) (fun _ _ => rfl)) pe_int (fun _ _ => rfl)) pe_str (nomark _)) (pw_or1 (pt_cmpR op_notIn_seq (pe_ix ix_tup (pe_ix ix_list (pv 0) (pe_op op_add (pv 1) pe_int) (fun _ _ => rfl)) pe_int (fun _ _ => rfl)) (pe_lst (pa_cons pe_str (pa_cons pe_str (pa_cons pe_str pa_nil)))) (by rfl)))))
  (pss_one (ps_ret (pe_tup (pa_cons pe_non (pa_cons (pe_op op_add (pe_op op_add (pv 1) pe_int) (pe_callTy call_int1 (by rfl) T.mint (by decide +kernel) (pa_cons (pe_cmpR op_eq (pe_ix ix_tup (pe_ix ix_list (pv 0) (pe_op op_add (pv 1) pe_int) (fun _ _ => rfl)) pe_int (fun _ _ => rfl)) pe_str (nomark _)) pa_nil))) pa_nil)))))
  pss_nil)
 (pss_one (ps_ret (pe_tup (pa_cons (pe_tup (pa_cons pe_str (pa_cons (pe_callTy call_int_str (by rfl) T.mint (by decide +kernel) (pa_cons (pe_ix ix_tup (pe_ix ix_list (pv 0) (pe_op op_add (pv 1) pe_int) (fun _ _ => rfl)) pe_int (fun _ _ => rfl)) pa_nil)) (pa_cons (pe_ix ix_tup (pe_ix ix_list (pv 0) (pe_op op_add (pv 1) pe_int) (fun _ _ => rfl)) pe_int (fun _ _ => rfl)) pa_nil)))) (pa_cons (pe_op op_add (pv 1) pe_int) pa_nil)))))))))), ?_⟩
  have nx1 : p + 1 < sg.length := by
    rcases hk with e | e | e <;> exact next_of hok e (by decide +kernel)
  have tk1 := (tok_cases hok (p + 1)).1
  have tl1 := tk1.len
  have ns1 : ¬ (("call" : Str) = "step") := by decide +kernel
  have ns2 : ¬ (("again" : Str) = "step") := by decide +kernel
  have ns3 : ¬ (("again" : Str) = "call") := by decide +kernel
  obtain ⟨svs0, b0, m0, l0, e0, t0⟩ := hL.at (i := p) (by omega)
  obtain ⟨svs1, b1, m1, l1, e1, t1⟩ := hL.at (i := p + 1) (by omega)
  refine ⟨_, rfl, _, rfl, a, svs0, (p : Int), _, rfl, rfl, SqL.of l0, atI_nat (j := p) e0, b0, _, 0, _, rfl, rfl, SqT.of t0, rfl, ?_⟩
  rcases hk with ew | ew | ew
  · have er : pRest sg (fun p _ => .bad p) (tok sg p) (p + 1) 0 = pStep sg (p + 1) 0 := by rw [ew]; rfl
    rw [er] at q
    refine ⟨_, rfl, rfl, _, rfl, ite2 (fun _ => ?_) (fun z => absurd (decide_eq_true (congrArg V.str ew)) z)⟩
    refine ⟨_, rfl, _, rfl, (p : Int), 1, rfl, rfl, a, svs1, _, _, rfl, rfl, SqL.of l1, atI_nat (j := p + 1) e1, b1, _, 0, _, rfl, rfl, SqT.of t1, rfl, tok sg (p + 1), 0, 99, rfl, tk1, fun H1 s1 => ?_⟩
    refine ⟨_, rfl, _, rfl, ite2 (fun c => ?_) (fun c => ?_)⟩
    · obtain ⟨k, hk, k0, k9⟩ := fig_true c
      have nk := num_next hok hk
      have ep : pStep sg (p + 1) 0 = .ok (.step k) (p + 2) 0 := by
        have en : pNum sg 0 99 (p + 1) 0 = .ok k (p + 2) 0 := by unfold pNum; rw [hk]; exact if_pos ⟨k0, k9⟩
        unfold pStep
        rw [en]
        rfl
      rw [ep] at q
      clear e1 t1 l1
      obtain ⟨svs1, b1, m1', l1, e1, t1⟩ := (hL.same s1).at (i := p + 1) (by omega)
      refine ⟨_, rfl, _, rfl, (p : Int), 1, rfl, rfl, a, svs1, _, _, rfl, rfl, SqL.of l1, atI_nat (j := p + 1) e1, b1, _, 0, _, rfl, rfl, SqT.of t1, rfl, _, k, rfl, nk.2.2.2, by omega, (by show 2 ≤ sizeLine; decide), fun t2 n2 => ⟨_, rfl, (p : Int), 2, rfl, rfl, (by show 2 ≤ sizeLine; decide), fun t3 n3 => ?_⟩⟩
      have st2 := same_new (o := .tup [.str "step", .int k]) n2
      have st3 := same_new (o := .tup [.ref t2, .int ((p : Int) + 2)]) n3
      exact q _ _ (s1.trans (st2.trans st3)) ⟨t3, .ref t2, rfl, upd_same, rp_tup (st3 _ _ upd_same) (rpl_cons rfl (rpl_cons rfl rpl_nil)), fun z => by cases z⟩
    · have ep : pStep sg (p + 1) 0 = .bad (p + 1) := by
        have en : pNum sg 0 99 (p + 1) 0 = .bad (p + 1) := by
          unfold pNum
          cases hk : numOf (tok sg (p + 1)) with
          | none => rfl
          | some k => exact if_neg (fig_false c k hk)
        unfold pStep
        rw [en]
        rfl
      rw [ep] at q
      refine ⟨_, rfl, (p : Int), 1, rfl, rfl, (by show 2 ≤ sizeLine; decide), fun t3 n3 => ?_⟩
      exact q _ _ (s1.trans (same_new n3)) ⟨t3, .non, rfl, upd_same, rfl⟩
  · have er : pRest sg (fun p _ => .bad p) (tok sg p) (p + 1) 0 = pCall sg (p + 1) 0 := by
      rw [ew]
      unfold pRest
      rw [if_neg ns1, if_pos rfl]
    rw [er] at q
    refine ⟨_, rfl, rfl, _, rfl, ite2 (fun z => absurd (V.str.inj (of_decide_eq_true z)) (by rw [ew]; exact ns1)) (fun _ => ?_)⟩
    refine ⟨_, rfl, rfl, _, rfl, ite2 (fun _ => ?_) (fun z => absurd (decide_eq_true (congrArg V.str ew)) z)⟩
    refine ⟨_, rfl, _, rfl, (p : Int), 1, rfl, rfl, a, svs1, _, _, rfl, rfl, SqL.of l1, atI_nat (j := p + 1) e1, b1, _, 0, _, rfl, rfl, SqT.of t1, rfl, tok sg (p + 1), rfl, by omega, fun H1 s1 => ?_⟩
    refine ⟨_, rfl, ite2 (fun c => iteT ?_) (fun c => ?_)⟩
    · have hn := not_true c
      have ep : pCall sg (p + 1) 0 = .bad (p + 1) := by
        have en : pName sg (p + 1) 0 = .bad (p + 1) := if_neg hn
        unfold pCall
        rw [en]
        rfl
      rw [ep] at q
      clear e1 t1 l1
      obtain ⟨svs1, b1, m1', l1, e1, t1⟩ := (hL.same s1).at (i := p + 1) (by omega)
      refine ⟨_, rfl, (p : Int), 1, rfl, rfl, _, rfl, _, rfl, (p : Int), 1, rfl, rfl, a, svs1, _, _, rfl, rfl, SqL.of l1, atI_nat (j := p + 1) e1, b1, _, 0, _, rfl, rfl, SqT.of t1, rfl, tok sg (p + 1), rfl, by omega, fun H2 s2 => ?_⟩
      refine .inr ⟨false, congrArg (fun b => [V.bl b]) (Bool.eq_false_iff.mpr hn), ?_⟩
      refine ⟨(p : Int) + 1, 0, rfl, rfl, (by show 2 ≤ sizeLine; decide), fun t3 n3 => ?_⟩
      refine q _ _ ((s1.trans s2).trans (same_new n3)) ⟨t3, .non, rfl, ?_, rfl⟩
      exact upd_same
    have hn := not_false c
    have en : pName sg (p + 1) 0 = .ok (tok sg (p + 1)) (p + 2) 0 := if_pos hn
    have nx2 : p + 1 + 1 < sg.length := name_next hok (.inr hn)
    obtain ⟨svs2, b2, m2, l2, e2, t2⟩ := (hL.same s1).at (i := p + 2) (by omega)
    refine ⟨_, rfl, _, rfl, (p : Int), 2, rfl, rfl, a, svs2, _, _, rfl, rfl, SqL.of l2, atI_nat (j := p + 2) e2, b2, _, 0, _, rfl, rfl, SqT.of t2, rfl, rfl, _, rfl, ite2 (fun c2 => ?_) (fun c2 => ?_)⟩
    · have hw := not_ne c2
      have ep : pCall sg (p + 1) 0 = .bad (p + 2) := by
        have ew2 : pWord sg "with" (p + 2) 0 = .bad (p + 2) := if_neg hw
        unfold pCall
        rw [en]
        show ((pWord sg "with" (p + 2) 0).bind _) = _
        rw [ew2]
        rfl
      rw [ep] at q
      clear e1 t1 l1
      obtain ⟨svs1, b1, m1', l1, e1, t1⟩ := (hL.same s1).at (i := p + 1) (by omega)
      refine ⟨_, rfl, (p : Int), 1, rfl, rfl, _, rfl, _, rfl, (p : Int), 1, rfl, rfl, a, svs1, _, _, rfl, rfl, SqL.of l1, atI_nat (j := p + 1) e1, b1, _, 0, _, rfl, rfl, SqT.of t1, rfl, tok sg (p + 1), rfl, by omega, fun H2 s2 => ?_⟩
      refine .inr ⟨true, congrArg (fun b => [V.bl b]) hn, ?_⟩
      refine ⟨(p : Int) + 1, 1, rfl, rfl, (by show 2 ≤ sizeLine; decide), fun t3 n3 => ?_⟩
      exact q _ _ ((s1.trans s2).trans (same_new n3)) ⟨t3, .non, rfl, upd_same, rfl⟩
    have hw := not_eq c2
    have nx3 : p + 2 + 1 < sg.length := next_of hok hw (by decide +kernel)
    have ep : pCall sg (p + 1) 0 = (pEnd sg (p + 3) 0).bind fun e p2 th => .ok (Thing.call (tok sg (p + 1)) e) p2 th := by
      have ew2 : pWord sg "with" (p + 2) 0 = .ok "with" (p + 3) 0 := if_pos hw
      unfold pCall
      rw [en]
      show ((pWord sg "with" (p + 2) 0).bind _) = _
      rw [ew2]
      rfl
    rw [ep] at q
    refine ⟨_, rfl, _, rfl, (p : Int), 3, rfl, rfl, a, sg, p + 3, rfl, hL.same s1, hok, by omega, trivial, fun v H2 s2 htl => ?_⟩
    replace htl : TelL vE (pEnd sg (p + 3) 0) v H2 := htl
    obtain ⟨tt, x, rfl, htl⟩ := htl
    cases hpe : pEnd sg (p + 3) 0 with
    | bad q0 =>
      rw [hpe] at htl q
      obtain ⟨ht, rfl⟩ := htl
      refine ⟨tt, _, rfl, SqT.of ht, rfl, _, _, rfl, _, _, rfl, rfl, ?_⟩
      refine ⟨_, rfl, rfl, _, rfl, ite2 (fun _ => ?_) (fun z => absurd rfl z)⟩
      refine ⟨_, rfl, (by show 2 ≤ sizeLine; decide), fun t3 n3 => ?_⟩
      exact q _ _ ((s1.trans s2).trans (same_new n3)) ⟨t3, .non, rfl, upd_same, rfl⟩
    | ok e q0 th0 =>
      rw [hpe] at htl q
      obtain ⟨ht, hv, hx⟩ := htl
      refine ⟨tt, _, rfl, SqT.of ht, rfl, _, _, rfl, _, _, rfl, rfl, ?_⟩
      refine ⟨_, rfl, rfl, _, rfl, ite2 (fun z => absurd (of_decide_eq_true z) hx) (fun _ => ?_)⟩
      clear e1 t1 l1
      obtain ⟨svs1, b1, m1', l1, e1, t1⟩ := (hL.same (s1.trans s2)).at (i := p + 1) (by omega)
      refine ⟨_, rfl, _, rfl, (p : Int), 1, rfl, rfl, a, svs1, _, _, rfl, rfl, SqL.of l1, atI_nat (j := p + 1) e1, b1, _, 0, _, rfl, rfl, SqT.of t1, rfl, _, rfl, (by show 3 ≤ sizeLine; decide), fun t3 n3 => ⟨_, rfl, (by show 2 ≤ sizeLine; decide), fun t4 n4 => ?_⟩⟩
      have st3 := same_new (o := .tup [.str "call", .str (tok sg (p + 1)), x]) n3
      have st4 := same_new (o := .tup [.ref t3, .int q0]) n4
      exact q _ _ ((s1.trans s2).trans (st3.trans st4)) ⟨t4, .ref t3, rfl, upd_same, rp_tup (st4 _ _ upd_same) (rpl_cons rfl (rpl_cons rfl (rpl_cons (Rp.to hv (Imm.same (st3.trans st4))) rpl_nil))), fun z => by cases z⟩
  · have er : pRest sg (fun p _ => .bad p) (tok sg p) (p + 1) 0 = pAgain sg (p + 1) 0 := by
      rw [ew]
      unfold pRest
      rw [if_neg ns2, if_neg ns3, if_pos rfl]
    rw [er] at q
    refine ⟨_, rfl, rfl, _, rfl, ite2 (fun z => absurd (V.str.inj (of_decide_eq_true z)) (by rw [ew]; exact ns2)) (fun _ => ?_)⟩
    refine ⟨_, rfl, rfl, _, rfl, ite2 (fun z => absurd (V.str.inj (of_decide_eq_true z)) (by rw [ew]; exact ns3)) (fun _ => ?_)⟩
    refine ⟨_, rfl, _, rfl, (p : Int), 1, rfl, rfl, a, svs1, _, _, rfl, rfl, SqL.of l1, atI_nat (j := p + 1) e1, b1, _, 0, _, rfl, rfl, SqT.of t1, rfl, tok sg (p + 1), 1, 9, rfl, tk1, fun H1 s1 => ?_⟩
    refine ⟨_, rfl, ite2 (fun c => ?_) (fun c => ?_)⟩
    · have ep : pAgain sg (p + 1) 0 = .bad (p + 1) := by
        have en : pNum sg 1 9 (p + 1) 0 = .bad (p + 1) := by
          unfold pNum
          cases hk : numOf (tok sg (p + 1)) with
          | none => rfl
          | some k => exact if_neg (fig_false (not_true c) k hk)
        unfold pAgain
        rw [en]
        rfl
      rw [ep] at q
      refine ⟨_, rfl, (p : Int), 1, rfl, rfl, (by show 2 ≤ sizeLine; decide), fun t3 n3 => ?_⟩
      exact q _ _ (s1.trans (same_new n3)) ⟨t3, .non, rfl, upd_same, rfl⟩
    obtain ⟨k, hk, k1, k9⟩ := fig_true (not_false c)
    have nk := num_next hok hk
    have nx2 : p + 1 + 1 < sg.length := nk.1
    have ep : pAgain sg (p + 1) 0 = (pWord sg "on" (p + 2) 0).bind fun _ p2 th => (pOf sg ["halves", "thirds", "less"] p2 th).bind fun w p3 th => .ok (Thing.again k w) p3 th := by
      have en : pNum sg 1 9 (p + 1) 0 = .ok k (p + 2) 0 := by unfold pNum; rw [hk]; exact if_pos ⟨k1, k9⟩
      unfold pAgain
      rw [en]
      rfl
    rw [ep] at q
    obtain ⟨svs2, b2, m2, l2, e2, t2⟩ := (hL.same s1).at (i := p + 2) (by omega)
    refine ⟨_, rfl, _, rfl, (p : Int), 2, rfl, rfl, a, svs2, _, _, rfl, rfl, SqL.of l2, atI_nat (j := p + 2) e2, b2, _, 0, _, rfl, rfl, SqT.of t2, rfl, rfl, _, rfl, ite2 (fun c2 => iteT ?_) (fun c2 => ?_)⟩
    · have hw := not_ne c2
      rw [show pWord sg "on" (p + 2) 0 = .bad (p + 2) from if_neg hw] at q
      refine ⟨_, rfl, (p : Int), 2, rfl, rfl, _, rfl, _, rfl, (p : Int), 2, rfl, rfl, a, svs2, _, _, rfl, rfl, SqL.of l2, atI_nat (j := p + 2) e2, b2, _, 0, _, rfl, rfl, SqT.of t2, rfl, rfl, .inr ⟨false, congrArg (fun b => [V.bl b]) (decide_eq_false (fun z => hw (V.str.inj z))), ?_⟩⟩
      refine ⟨(p : Int) + 2, 0, rfl, rfl, (by show 2 ≤ sizeLine; decide), fun t3 n3 => ?_⟩
      exact q _ _ (s1.trans (same_new n3)) ⟨t3, .non, rfl, upd_same, rfl⟩
    have hw := not_eq c2
    have nx3 : p + 2 + 1 < sg.length := next_of hok hw (by decide +kernel)
    rw [show pWord sg "on" (p + 2) 0 = .ok "on" (p + 3) 0 from if_pos hw] at q
    replace q : ∀ v H', Same H H' → TelL vT ((pOf sg ["halves", "thirds", "less"] (p + 3) 0).bind fun w p3 th => .ok (Thing.again k w) p3 th) v H' → Q v H' := q
    obtain ⟨svs3, b3, m3, l3, e3, t3⟩ := (hL.same s1).at (i := p + 3) (by omega)
    refine ⟨_, rfl, _, rfl, (p : Int), 3, rfl, rfl, a, svs3, _, _, rfl, rfl, SqL.of l3, atI_nat (j := p + 3) e3, b3, _, 0, _, rfl, rfl, SqT.of t3, rfl, (by show 3 ≤ sizeLine; decide), fun l nl => ?_⟩
    have sl := same_new (o := .lst [.str "halves", .str "thirds", .str "less"]) nl
    have s2 := s1.trans sl
    refine ⟨l, _, rfl, .inl (SqL.of upd_same), rfl, rfl, _, rfl, ite2 (fun c3 => ?_) (fun c3 => ?_)⟩
    · have c4 : (!inV (.str (tok sg (p + 3))) ((["halves", "thirds", "less"] : List Str).map V.str)) = true := c3
      rw [inV_str] at c4
      have hni : tok sg (p + 3) ∉ (["halves", "thirds", "less"] : List Str) := fun z => by rw [decide_eq_true z] at c4; cases c4
      rw [show pOf sg ["halves", "thirds", "less"] (p + 3) 0 = .bad (p + 3) from if_neg hni] at q
      clear e2 t2 l2
      obtain ⟨svs2, b2, m2', l2, e2, t2⟩ := (hL.same s2).at (i := p + 2) (by omega)
      refine ⟨_, rfl, (p : Int), 2, rfl, rfl, _, rfl, _, rfl, (p : Int), 2, rfl, rfl, a, svs2, _, _, rfl, rfl, SqL.of l2, atI_nat (j := p + 2) e2, b2, _, 0, _, rfl, rfl, SqT.of t2, rfl, rfl, .inr ⟨true, congrArg (fun b => [V.bl b]) (decide_eq_true (congrArg V.str hw)), ?_⟩⟩
      refine ⟨(p : Int) + 2, 1, rfl, rfl, (by show 2 ≤ sizeLine; decide), fun t4 n4 => ?_⟩
      exact q _ _ (s2.trans (same_new n4)) ⟨t4, .non, rfl, upd_same, rfl⟩
    · have c4 : (!inV (.str (tok sg (p + 3))) ((["halves", "thirds", "less"] : List Str).map V.str)) = false := Bool.eq_false_iff.mpr c3
      rw [inV_str] at c4
      have hni : tok sg (p + 3) ∈ (["halves", "thirds", "less"] : List Str) := by
        by_cases z : tok sg (p + 3) ∈ (["halves", "thirds", "less"] : List Str)
        · exact z
        · rw [decide_eq_false z] at c4; cases c4
      rw [show pOf sg ["halves", "thirds", "less"] (p + 3) 0 = .ok (tok sg (p + 3)) (p + 4) 0 from if_pos hni] at q
      clear e1 t1 l1 e3 t3 l3
      obtain ⟨svs1, b1, m1', l1, e1, t1⟩ := (hL.same s2).at (i := p + 1) (by omega)
      obtain ⟨svs3, b3, m3', l3, e3, t3⟩ := (hL.same s2).at (i := p + 3) (by omega)
      refine ⟨_, rfl, _, rfl, (p : Int), 1, rfl, rfl, a, svs1, _, _, rfl, rfl, SqL.of l1, atI_nat (j := p + 1) e1, b1, _, 0, _, rfl, rfl, SqT.of t1, rfl, _, k, rfl, nk.2.2.2, by omega, _, rfl, _, rfl, (p : Int), 3, rfl, rfl, a, svs3, _, _, rfl, rfl, SqL.of l3, atI_nat (j := p + 3) e3, b3, _, 0, _, rfl, rfl, SqT.of t3, rfl, (by show 3 ≤ sizeLine; decide), fun t4 n4 => ⟨_, rfl, (p : Int), 4, rfl, rfl, (by show 2 ≤ sizeLine; decide), fun t5 n5 => ?_⟩⟩
      have st4 := same_new (o := .tup [.str "again", .int k, .str (tok sg (p + 3))]) n4
      have st5 := same_new (o := .tup [.ref t4, .int ((p : Int) + 4)]) n5
      exact q _ _ (s2.trans (st4.trans st5)) ⟨t5, .ref t4, rfl, upd_same, rp_tup (st5 _ _ upd_same) (rpl_cons rfl (rpl_cons rfl (rpl_cons rfl rpl_nil))), fun z => by cases z⟩
theorem ok_l_read_ends (T : Tops w K mg) : FnOk P w K mg base CX0 4 T.fl_read_ends T.dl_read_ends ["_law_signs", "_law_at", "_law_middle"] spLEnds := by
  have Gl_read_end : FnOk P w K mg base CX0 3 T.fl_read_end T.dl_read_end ["_law_signs", "_law_at"] spLEnd := ok_l_read_end T
  refine T.Fl_read_ends.ok (k := 3) scl_read_ends (fun vs H Q E h => ?_) (fun cdv A outer s H vs Q E hr h => ?_)
  · obtain ⟨a, sg, p, m, rfl, _⟩ := h
    rfl
  obtain ⟨a, sg, p, m, rfl, hL, hok, hp, hm, q⟩ := h
  replace q : ∀ v H', Same H H' → TelL vEE ((pEnd sg p 0).bind fun x p th => (pWord sg m p th).bind fun _ p th => (pEnd sg p th).bind fun y p th => .ok (x, y) p th) v H' → Q v H' := q
  refine ⟨_, (pss_cons (ps_asg (pe_call Gl_read_end (hr.mono (by omega)) (by rfl) T.gl_read_end T.Fl_read_end.kp T.bl_read_end .nil pass0 (pa_cons (pv 0) (pa_cons (pv 1) pa_nil))) (pg_tup rfl (pgs_cons (pg_name (i := 3) scl_read_ends.nd rfl (Or.inl rfl)) (pgs_cons (pg_name (i := 1) scl_read_ends.nd rfl (Or.inl rfl)) pgs_nil))))
 (pss_cons (ps_if (PW.pt (pw_or (pt_cmpR op_isN (pv 3) pe_non (nomark _)) (pw_or1 (pt_cmpR op_ne (pe_ix ix_tup (pe_ix ix_list (pv 0) (pv 1) (fun _ _ => rfl)) pe_int (fun _ _ => rfl)) (pv 2) (nomark _)))))
  (pss_one (ps_ret (pe_tup (pa_cons pe_non (pa_cons (pv 1) pa_nil)))))
  pss_nil)
 (pss_cons (ps_asg (pe_call Gl_read_end (hr.mono (by omega)) (by rfl) T.gl_read_end T.Fl_read_end.kp T.bl_read_end .nil pass0 (pa_cons (pv 0) (pa_cons (pe_op op_add (pv 1) pe_int) pa_nil))) (pg_tup rfl (pgs_cons (pg_name (i := 4) scl_read_ends.nd rfl (Or.inl rfl)) (pgs_cons (pg_name (i := 1) scl_read_ends.nd rfl (Or.inl rfl)) pgs_nil))))
 (pss_one (ps_ret (pe_ifExp (pt_cmpR op_isN (pv 4) pe_non (nomark _)) (pe_tup (pa_cons pe_non (pa_cons (pv 1) pa_nil))) (pe_tup (pa_cons (pe_tup (pa_cons (pv 3) (pa_cons (pv 4) pa_nil))) (pa_cons (pv 1) pa_nil))))))))), ?_⟩
  refine ⟨_, rfl, _, rfl, a, sg, p, rfl, hL, hok, hp, trivial, fun v H1 s1 htl => ?_⟩
  obtain ⟨tt, x, rfl, htl⟩ := htl
  cases hpe : pEnd sg p 0 with
  | bad q0 =>
    rw [show (fun sg p => pEnd sg p 0) sg p = pEnd sg p 0 from rfl, hpe] at htl
    rw [hpe] at q
    obtain ⟨ht, rfl⟩ := htl
    refine ⟨tt, _, rfl, SqT.of ht, rfl, _, _, rfl, _, _, rfl, rfl, ?_⟩
    refine ⟨_, rfl, rfl, _, rfl, ite2 (fun _ => iteT ?_) (fun z => absurd rfl z)⟩
    refine ⟨_, rfl, (by show 2 ≤ sizeLine; decide), fun t3 n3 => ?_⟩
    exact q _ _ (s1.trans (same_new n3)) ⟨t3, .non, rfl, upd_same, rfl⟩
  | ok e1' q1 th1 =>
    rw [show (fun sg p => pEnd sg p 0) sg p = pEnd sg p 0 from rfl, hpe] at htl
    rw [hpe] at q
    obtain ⟨ht, hv, hx⟩ := htl
    have nq := end_next hok hpe
    refine ⟨tt, _, rfl, SqT.of ht, rfl, _, _, rfl, _, _, rfl, rfl, ?_⟩
    refine ⟨_, rfl, rfl, _, rfl, ite2 (fun z => absurd (of_decide_eq_true z) hx) (fun _ => ?_)⟩
    replace q : ∀ v H', Same H H' → TelL vEE ((pWord sg m q1 th1).bind fun _ p th => (pEnd sg p th).bind fun y p th => .ok (e1', y) p th) v H' → Q v H' := q
    obtain ⟨svs0, b0, m0, l0, e0, t0⟩ := (hL.same s1).at (i := q1) (by omega)
    refine ⟨_, rfl, _, rfl, a, svs0, (q1 : Int), _, rfl, rfl, SqL.of l0, atI_nat (j := q1) e0, b0, _, 0, _, rfl, rfl, SqT.of t0, rfl, _, rfl, rfl, _, rfl, ite2 (fun c => ?_) (fun c => ?_)⟩
    · have hw := not_ne c
      rw [show pWord sg m q1 th1 = .bad q1 from if_neg hw] at q
      refine ⟨_, rfl, (by show 2 ≤ sizeLine; decide), fun t3 n3 => ?_⟩
      exact q _ _ (s1.trans (same_new n3)) ⟨t3, .non, rfl, upd_same, rfl⟩
    have hw := not_eq c
    have nq2 := next_of hok hw hm
    rw [show pWord sg m q1 th1 = .ok m (q1 + 1) th1 from if_pos hw] at q
    replace q : ∀ v H', Same H H' → TelL vEE ((pEnd sg (q1 + 1) th1).bind fun y p th => .ok (e1', y) p th) v H' → Q v H' := q
    refine ⟨_, rfl, _, rfl, (q1 : Int), 1, rfl, rfl, a, sg, q1 + 1, rfl, hL.same s1, hok, nq2, trivial, fun v2 H2 s2 htl2 => ?_⟩
    obtain ⟨tt2, x2, rfl, htl2⟩ := htl2
    rw [endf th1] at q
    cases hpe2 : pEnd sg (q1 + 1) 0 with
    | bad q0 =>
      rw [show (fun sg p => pEnd sg p 0) sg (q1 + 1) = pEnd sg (q1 + 1) 0 from rfl, hpe2] at htl2
      rw [hpe2] at q
      obtain ⟨ht2, rfl⟩ := htl2
      refine ⟨tt2, _, rfl, SqT.of ht2, rfl, _, _, rfl, _, _, rfl, rfl, ?_⟩
      refine ⟨_, rfl, rfl, _, rfl, ite2 (fun _ => ?_) (fun z => absurd rfl z)⟩
      refine ⟨_, rfl, (by show 2 ≤ sizeLine; decide), fun t3 n3 => ?_⟩
      exact q _ _ ((s1.trans s2).trans (same_new n3)) ⟨t3, .non, rfl, upd_same, rfl⟩
    | ok e2' q2 th2 =>
      rw [show (fun sg p => pEnd sg p 0) sg (q1 + 1) = pEnd sg (q1 + 1) 0 from rfl, hpe2] at htl2
      rw [hpe2] at q
      obtain ⟨ht2, hv2, hx2⟩ := htl2
      refine ⟨tt2, _, rfl, SqT.of ht2, rfl, _, _, rfl, _, _, rfl, rfl, ?_⟩
      refine ⟨_, rfl, rfl, _, rfl, ite2 (fun z => absurd (of_decide_eq_true z) hx2) (fun _ => ?_)⟩
      refine ⟨_, rfl, _, rfl, (by show 2 ≤ sizeLine; decide), fun t3 n3 => ⟨_, rfl, (by show 2 ≤ sizeLine; decide), fun t4 n4 => ?_⟩⟩
      have st3 := same_new (o := .tup [x, x2]) n3
      have st4 := same_new (o := .tup [.ref t3, .int q2]) n4
      have i34 := Imm.same (st3.trans st4)
      exact q _ _ ((s1.trans s2).trans (st3.trans st4)) ⟨t4, .ref t3, rfl, upd_same, rp_tup (st4 _ _ upd_same) (rpl_cons (Rp.to hv ((Imm.same s2).trans i34)) (rpl_cons (Rp.to hv2 i34) rpl_nil)), fun z => by cases z⟩
end
end K05

set_option Elab.async false
set_option linter.all false
set_option maxRecDepth 100000
set_option maxHeartbeats 4000000
namespace K05
open PySem PySem.Spec PyProof.Rows L2 OG
open C8 (pss_cut pe_gc)
open OGX

section
variable {P : Program} {w : World} {K : PySem.W.Frag} {mg : Str → Option Value} {base : Heap}
theorem rp_one {H : Hp} {p : Addr} {z : Str} (n : H p = none) : Rp (upd H p (.tup [.str z])) (.ref p) (.tup [.str z]) := rp_tup upd_same (rpl_cons rfl rpl_nil)
theorem ok_l_read_bracket0 (T : Tops w K mg) : FnOk P w K mg base CX0 5 T.fl_read_bracket T.dl_read_bracket ["_law_signs", "_law_at", "_law_deep", "_law_room"] (spLBr 0) := by
  have Gl_read_body : FnOk P w K mg base CX0 4 T.fl_read_body T.dl_read_body ["_law_signs", "_law_at", "_law_deep", "_law_room"] (fun _ _ _ _ => False) := OG.fn_none
  refine T.Fl_read_bracket.ok (k := 4) scl_read_bracket (fun vs H Q E h => ?_) (fun cdv A outer s H vs Q E hr h => ?_)
  · obtain ⟨a, rm, sg, p, th, dp, rfl, _⟩ := h
    rfl
  obtain ⟨a, rm, sg, p, th, dp, rfl, hL, hok, hp, hrm, hth, nar, hdp, q⟩ := h
  replace q : ∀ v H', Go (· = rm) H H' → TelL vB (.bad p) v H' → Q v H' := fun v H' g t => q v H' g t (fun _ _ _ z => by cases z)
  refine ⟨_, (pss_cons (ps_if (PW.pt (pw_or (pt_cmpR op_ne (pe_ix ix_tup (pe_ix ix_list (pv 0) (pv 1) (fun _ _ => rfl)) pe_int (fun _ _ => rfl)) pe_str (nomark _)) (pw_or1 (pt_cmpR op_gt (pv 2) pe_int (nomark _)))))
  (pss_one (ps_ret (pe_tup (pa_cons pe_non (pa_cons (pv 1) pa_nil)))))
  pss_nil)
 (pss_cons (ps_asg (pe_call Gl_read_body (hr.mono (by omega)) (by rfl) T.gl_read_body T.Fl_read_body.kp T.bl_read_body .nil pass0 (pa_cons (pv 0) (pa_cons (pe_op op_add (pv 1) pe_int) (pa_cons (pe_op op_add (pv 2) pe_int) (pa_cons (pv 3) pa_nil))))) (pg_tup rfl (pgs_cons (pg_name (i := 4) scl_read_bracket.nd rfl (Or.inl rfl)) (pgs_cons (pg_name (i := 1) scl_read_bracket.nd rfl (Or.inl rfl)) pgs_nil))))
 (pss_cons (ps_if (PW.pt (pw_or (pt_cmpR op_isN (pv 4) pe_non (nomark _)) (pw_or1 (pt_cmpR op_ne (pe_ix ix_tup (pe_ix ix_list (pv 0) (pv 1) (fun _ _ => rfl)) pe_int (fun _ _ => rfl)) pe_str (nomark _)))))
  (pss_one (ps_ret (pe_tup (pa_cons pe_non (pa_cons (pv 1) pa_nil)))))
  pss_nil)
 (pss_one (ps_ret (pe_tup (pa_cons (pv 4) (pa_cons (pe_op op_add (pv 1) pe_int) pa_nil)))))))), ?_⟩
  obtain ⟨svs0, b0, m0, l0, e0, t0⟩ := hL.at (i := p) (by omega)
  have fin : ∀ t3, H t3 = none → Q (.ref t3) (upd H t3 (.tup [.non, .int p])) := fun t3 n3 => q _ _ ((Go.refl _ _).new n3) ⟨t3, .non, rfl, upd_same, rfl⟩
  refine ⟨_, rfl, _, rfl, a, svs0, (p : Int), _, rfl, rfl, SqL.of l0, atI_nat (j := p) e0, b0, _, 0, _, rfl, rfl, SqT.of t0, rfl, rfl, _, rfl, ite2 (fun c => iteT ?_) (fun c => ?_)⟩
  · exact ⟨_, rfl, (by show 2 ≤ sizeLine; decide), fin⟩
  · refine ⟨_, rfl, (dp : Int), 3, rfl, rfl, _, rfl, ite2 (fun _ => ?_) (fun z => absurd (decide_eq_true (by omega)) z)⟩
    exact ⟨_, rfl, (by show 2 ≤ sizeLine; decide), fin⟩
theorem ok_l_read_bracket (T : Tops w K mg) (n : Nat) (Gl_read_body : FnOk P w K mg base CX0 (3 * n + 7) T.fl_read_body T.dl_read_body ["_law_signs", "_law_at", "_law_deep", "_law_room"] (spLBody n)) : FnOk P w K mg base CX0 (3 * n + 7 + 1) T.fl_read_bracket T.dl_read_bracket ["_law_signs", "_law_at", "_law_deep", "_law_room"] (spLBr (n + 1)) := by
  refine T.Fl_read_bracket.ok (k := 3 * n + 7) scl_read_bracket (fun vs H Q E h => ?_) (fun cdv A outer s H vs Q E hr h => ?_)
  · obtain ⟨a, rm, sg, p, th, dp, rfl, _⟩ := h
    rfl
  obtain ⟨a, rm, sg, p, th, dp, rfl, hL, hok, hp, hrm, hth, nar, hdp, q⟩ := h
  have eb : pBracket sg (n + 1) p th = (pWord sg "(" p th).bind fun _ p th => (pBody sg (pThing sg (pBracket sg n)) p th).bind fun b p th => (pWord sg ")" p th).bind fun _ p th => .ok b p th := rfl
  rw [show (fun sg => pBracket sg (n + 1)) sg p th = pBracket sg (n + 1) p th from rfl, eb] at q
  refine ⟨_, (pss_cons (ps_if (PW.pt (pw_or (pt_cmpR op_ne (pe_ix ix_tup (pe_ix ix_list (pv 0) (pv 1) (fun _ _ => rfl)) pe_int (fun _ _ => rfl)) pe_str (nomark _)) (pw_or1 (pt_cmpR op_gt (pv 2) pe_int (nomark _)))))
  (pss_one (ps_ret (pe_tup (pa_cons pe_non (pa_cons (pv 1) pa_nil)))))
  pss_nil)
 (pss_cons (ps_asg (pe_call Gl_read_body (hr.mono (by omega)) (by rfl) T.gl_read_body T.Fl_read_body.kp T.bl_read_body .nil pass0 (pa_cons (pv 0) (pa_cons (pe_op op_add (pv 1) pe_int) (pa_cons (pe_op op_add (pv 2) pe_int) (pa_cons (pv 3) pa_nil))))) (pg_tup rfl (pgs_cons (pg_name (i := 4) scl_read_bracket.nd rfl (Or.inl rfl)) (pgs_cons (pg_name (i := 1) scl_read_bracket.nd rfl (Or.inl rfl)) pgs_nil))))
 (pss_cons (ps_if (PW.pt (pw_or (pt_cmpR op_isN (pv 4) pe_non (nomark _)) (pw_or1 (pt_cmpR op_ne (pe_ix ix_tup (pe_ix ix_list (pv 0) (pv 1) (fun _ _ => rfl)) pe_int (fun _ _ => rfl)) pe_str (nomark _)))))
  (pss_one (ps_ret (pe_tup (pa_cons pe_non (pa_cons (pv 1) pa_nil)))))
  pss_nil)
 (pss_one (ps_ret (pe_tup (pa_cons (pv 4) (pa_cons (pe_op op_add (pv 1) pe_int) pa_nil)))))))), ?_⟩
  obtain ⟨svs0, b0, m0, l0, e0, t0⟩ := hL.at (i := p) (by omega)
  refine ⟨_, rfl, _, rfl, a, svs0, (p : Int), _, rfl, rfl, SqL.of l0, atI_nat (j := p) e0, b0, _, 0, _, rfl, rfl, SqT.of t0, rfl, rfl, _, rfl, ite2 (fun c => iteT ?_) (fun c => ?_)⟩
  · rw [show pWord sg "(" p th = .bad p from if_neg (not_ne c)] at q
    exact ⟨_, rfl, (by show 2 ≤ sizeLine; decide), fun t3 n3 => q _ _ ((Go.refl _ _).new n3) ⟨t3, .non, rfl, upd_same, rfl⟩ (fun _ _ _ z => by cases z)⟩
  have hw := not_eq c
  have nx := next_of hok hw (by decide +kernel)
  rw [show pWord sg "(" p th = .ok "(" (p + 1) th from if_pos hw] at q
  replace q : ∀ v H', Go (· = rm) H H' → TelL vB ((pBody sg (pThing sg (pBracket sg n)) (p + 1) th).bind fun b p th => (pWord sg ")" p th).bind fun _ p th => .ok b p th) v H' → (∀ y p' th', ((pBody sg (pThing sg (pBracket sg n)) (p + 1) th).bind fun b p th => (pWord sg ")" p th).bind fun _ p th => .ok b p th) = .ok y p' th' → RmAt H' rm th') → Q v H' := q
  refine ⟨_, rfl, (dp : Int), 3, rfl, rfl, _, rfl, ite2 (fun z => absurd (of_decide_eq_true z) (by omega)) (fun _ => ?_)⟩
  refine ⟨_, rfl, _, rfl, (p : Int), 1, rfl, rfl, _, rfl, (dp : Int), 1, rfl, rfl, _, rfl, a, rm, sg, p + 1, th, dp + 1, rfl, hL, hok, nx, hrm, hth, nar, by omega, fun v H1 G1 htl hrm1 => ?_⟩
  replace htl : TelL vB (pBody sg (pThing sg (pBracket sg n)) (p + 1) th) v H1 := htl
  replace hrm1 : ∀ y p' th', pBody sg (pThing sg (pBracket sg n)) (p + 1) th = .ok y p' th' → RmAt H1 rm th' := hrm1
  obtain ⟨tt, x, rfl, htl⟩ := htl
  cases hR : pBody sg (pThing sg (pBracket sg n)) (p + 1) th with
  | bad q0 =>
    rw [hR] at htl q
    obtain ⟨ht, rfl⟩ := htl
    refine ⟨tt, _, rfl, SqT.of ht, rfl, _, _, rfl, _, _, rfl, rfl, ?_⟩
    refine ⟨_, rfl, rfl, _, rfl, ite2 (fun _ => iteT ?_) (fun z => absurd rfl z)⟩
    exact ⟨_, rfl, (by show 2 ≤ sizeLine; decide), fun t3 n3 => q _ _ (G1.new n3) ⟨t3, .non, rfl, upd_same, rfl⟩ (fun _ _ _ z => by cases z)⟩
  | ok b q1 th1 =>
    have hrm2 := hrm1 _ _ _ hR
    have nq := body_nx hok hR
    rw [hR] at htl q
    obtain ⟨ht, hv, hx⟩ := htl
    replace q : ∀ v H', Go (· = rm) H H' → TelL vB ((pWord sg ")" q1 th1).bind fun _ p th => .ok b p th) v H' → (∀ y p' th', ((pWord sg ")" q1 th1).bind fun _ p th => .ok b p th) = .ok y p' th' → RmAt H' rm th') → Q v H' := q
    refine ⟨tt, _, rfl, SqT.of ht, rfl, _, _, rfl, _, _, rfl, rfl, ?_⟩
    refine ⟨_, rfl, rfl, _, rfl, ite2 (fun z => absurd (of_decide_eq_true z) hx) (fun _ => ?_)⟩
    clear e0 t0 l0
    obtain ⟨svs0, b0, m0', l0, e0, t0⟩ := (hL.go G1 nar).at (i := q1) (by omega)
    refine ⟨_, rfl, _, rfl, a, svs0, (q1 : Int), _, rfl, rfl, SqL.of l0, atI_nat (j := q1) e0, b0, _, 0, _, rfl, rfl, SqT.of t0, rfl, rfl, _, rfl, ite2 (fun c2 => ?_) (fun c2 => ?_)⟩
    · rw [show pWord sg ")" q1 th1 = .bad q1 from if_neg (not_ne c2)] at q
      exact ⟨_, rfl, (by show 2 ≤ sizeLine; decide), fun t3 n3 => q _ _ (G1.new n3) ⟨t3, .non, rfl, upd_same, rfl⟩ (fun _ _ _ z => by cases z)⟩
    · rw [show pWord sg ")" q1 th1 = .ok ")" (q1 + 1) th1 from if_pos (not_eq c2)] at q
      refine ⟨_, rfl, _, rfl, (q1 : Int), 1, rfl, rfl, (by show 2 ≤ sizeLine; decide), fun t3 n3 => ?_⟩
      refine q _ _ (G1.new n3) ⟨t3, x, rfl, upd_same, Rp.to hv (Imm.same (same_new n3)), hx⟩ fun y p' th' z => ?_
      cases z
      exact same_new n3 _ _ hrm2
theorem ok_l_read_thing (T : Tops w K mg) (n : Nat) (Gl_read_bracket : FnOk P w K mg base CX0 (3 * n + 5) T.fl_read_bracket T.dl_read_bracket ["_law_signs", "_law_at", "_law_deep", "_law_room"] (spLBr n)) : FnOk P w K mg base CX0 (3 * n + 5 + 1) T.fl_read_thing T.dl_read_thing ["_law_signs", "_law_at", "_law_deep", "_law_room"] (spLThing n) := by
  have Gl_is_name : FnOk P w K mg base CX0 2 T.fl_is_name T.dl_is_name ["_law_word"] spName := ok_l_is_name T
  have Gl_read_leaf : FnOk P w K mg base CX0 4 T.fl_read_leaf T.dl_read_leaf ["_law_signs", "_law_at"] spLLeaf := ok_l_read_leaf T
  have Gl_read_ends : FnOk P w K mg base CX0 4 T.fl_read_ends T.dl_read_ends ["_law_signs", "_law_at", "_law_middle"] spLEnds := ok_l_read_ends T
  refine T.Fl_read_thing.ok (k := 3 * n + 5) scl_read_thing (fun vs H Q E h => ?_) (fun cdv A outer s H vs Q E hr h => ?_)
  · obtain ⟨a, rm, sg, p, th, dp, rfl, _⟩ := h
    rfl
  obtain ⟨a, rm, sg, p, th, dp, rfl, hL, hok, hp, hrm, hth, nar, hdp, q⟩ := h
  replace q : ∀ v H', Go (· = rm) H H' → TelL vT (if th < 12 ∧ tok sg p ∈ kinds then pRest sg (pBracket sg n) (tok sg p) (p + 1) (th + 1) else .bad p) v H' → (∀ y p' th', (if th < 12 ∧ tok sg p ∈ kinds then pRest sg (pBracket sg n) (tok sg p) (p + 1) (th + 1) else .bad p) = .ok y p' th' → RmAt H' rm th') → Q v H' := q
  refine ⟨_, (pss_cons (ps_set (i := 4) scl_read_thing.nd rfl (Or.inl rfl) (pe_ix ix_tup (pe_ix ix_list (pv 0) (pv 1) (fun _ _ => rfl)) pe_int (fun _ _ => rfl)))
 (pss_cons (ps_if (PW.pt (pw_or (pt_cmpR op_eq (pe_ix ix_list (pv 3) pe_int (fun _ _ => rfl)) pe_int (nomark _)) (pw_or1 (pt_cmpR op_notIn_seq (pv 4) (pe_lst (pa_cons pe_str (pa_cons pe_str (pa_cons pe_str (pa_cons pe_str (pa_cons pe_str (pa_cons pe_str pa_nil))))))) (by rfl)))))
  (pss_one (ps_ret (pe_tup (pa_cons pe_non (pa_cons (pv 1) pa_nil)))))
  pss_nil)
 (pss_cons (ps_asg (pe_op op_sub (pe_ix ix_list (pv 3) pe_int (fun _ _ => rfl)) pe_int) (pg_sub (pv 3) pe_int set_list))
 (pss_cons (ps_if (pt_cmpR op_in_seq (pv 4) (pe_lst (pa_cons pe_str (pa_cons pe_str (pa_cons pe_str pa_nil)))) (by rfl))
  (pss_one (ps_ret (pe_call Gl_read_leaf (hr.mono (by omega)) (by rfl) T.gl_read_leaf T.Fl_read_leaf.kp T.bl_read_leaf .nil pass0 (pa_cons (pv 0) (pa_cons (pv 1) pa_nil)))))
  pss_nil)
 (pss_cons (ps_set (i := 5) scl_read_thing.nd rfl (Or.inl rfl) (pe_tup (pa_cons (pv 4) pa_nil)))
 (pss_cons (ps_set (i := 1) scl_read_thing.nd rfl (Or.inl rfl) (pe_op op_add (pv 1) pe_int))
 (pss_cons (ps_if (pt_cmpR op_eq (pv 4) pe_str (nomark _))
  (pss_cons (ps_if (PW.pt (pw_or (pt_not (pt_val (pe_call Gl_is_name (hr.mono (by omega)) (by rfl) T.gl_is_name T.Fl_is_name.kp T.bl_is_name .nil pass0 (pa_cons (pe_ix ix_tup (pe_ix ix_list (pv 0) (pv 1) (fun _ _ => rfl)) pe_int (fun _ _ => rfl)) pa_nil)))) (pw_or1 (pt_cmpR op_ne (pe_ix ix_tup (pe_ix ix_list (pv 0) (pe_op op_add (pv 1) pe_int) (fun _ _ => rfl)) pe_int (fun _ _ => rfl)) pe_str (nomark _)))))
  (pss_one (ps_ret (pe_tup (pa_cons pe_non (pa_cons (pe_op op_add (pv 1) (pe_callTy call_int1 (by rfl) T.mint (by decide +kernel) (pa_cons (pe_call Gl_is_name (hr.mono (by omega)) (by rfl) T.gl_is_name T.Fl_is_name.kp T.bl_is_name .nil pass0 (pa_cons (pe_ix ix_tup (pe_ix ix_list (pv 0) (pv 1) (fun _ _ => rfl)) pe_int (fun _ _ => rfl)) pa_nil)) pa_nil))) pa_nil)))))
  pss_nil)
 (pss_cons (ps_set (i := 5) scl_read_thing.nd rfl (Or.inl rfl) (pe_op op_catA (pv 5) (pe_tup (pa_cons (pe_ix ix_tup (pe_ix ix_list (pv 0) (pv 1) (fun _ _ => rfl)) pe_int (fun _ _ => rfl)) pa_nil))))
 (pss_one (ps_set (i := 1) scl_read_thing.nd rfl (Or.inl rfl) (pe_op op_add (pv 1) pe_int)))))
  pss_nil)
 (pss_cons (ps_if (pt_cmpR op_ne (pv 4) pe_str (nomark _))
  (pss_cons (ps_asg (pe_call Gl_read_ends (hr.mono (by omega)) (by rfl) T.gl_read_ends T.Fl_read_ends.kp T.bl_read_ends .nil pass0 (pa_cons (pv 0) (pa_cons (pv 1) (pa_cons (pe_ifExp (pt_cmpR op_eq (pv 4) pe_str (nomark _)) pe_str pe_str) pa_nil)))) (pg_tup rfl (pgs_cons (pg_name (i := 8) scl_read_thing.nd rfl (Or.inl rfl)) (pgs_cons (pg_name (i := 1) scl_read_thing.nd rfl (Or.inl rfl)) pgs_nil))))
 (pss_cons (ps_if (pt_cmpR op_isN (pv 8) pe_non (nomark _))
  (pss_one (ps_ret (pe_tup (pa_cons pe_non (pa_cons (pv 1) pa_nil)))))
  pss_nil)
 (pss_one (ps_set (i := 5) scl_read_thing.nd rfl (Or.inl rfl) (pe_op op_catA (pv 5) (pv 8))))))
  pss_nil)
 (pss_cons (ps_asg (pe_call Gl_read_bracket (hr.mono (by omega)) (by rfl) T.gl_read_bracket T.Fl_read_bracket.kp T.bl_read_bracket .nil pass0 (pa_cons (pv 0) (pa_cons (pv 1) (pa_cons (pv 2) (pa_cons (pv 3) pa_nil))))) (pg_tup rfl (pgs_cons (pg_name (i := 6) scl_read_thing.nd rfl (Or.inl rfl)) (pgs_cons (pg_name (i := 1) scl_read_thing.nd rfl (Or.inl rfl)) pgs_nil))))
 (pss_cons (ps_if (PW.pt (pw_or (pt_cmpR op_isN (pv 6) pe_non (nomark _)) (pw_or1 (pt_cmpR op_ne (pv 4) pe_str (nomark _)))))
  (pss_one (ps_ret (pe_ifExp (pt_cmpR op_isN (pv 6) pe_non (nomark _)) (pe_tup (pa_cons pe_non (pa_cons (pv 1) pa_nil))) (pe_tup (pa_cons (pe_op op_catA (pv 5) (pe_tup (pa_cons (pv 6) pa_nil))) (pa_cons (pv 1) pa_nil))))))
  pss_nil)
 (pss_cons (ps_if (pt_cmpR op_ne (pe_ix ix_tup (pe_ix ix_list (pv 0) (pv 1) (fun _ _ => rfl)) pe_int (fun _ _ => rfl)) pe_str (nomark _))
  (pss_one (ps_ret (pe_tup (pa_cons (pe_op op_catA (pv 5) (pe_tup (pa_cons (pv 6) (pa_cons (pe_tup pa_nil) pa_nil)))) (pa_cons (pv 1) pa_nil)))))
  pss_nil)
 (pss_cons (ps_asg (pe_call Gl_read_bracket (hr.mono (by omega)) (by rfl) T.gl_read_bracket T.Fl_read_bracket.kp T.bl_read_bracket .nil pass0 (pa_cons (pv 0) (pa_cons (pe_op op_add (pv 1) pe_int) (pa_cons (pv 2) (pa_cons (pv 3) pa_nil))))) (pg_tup rfl (pgs_cons (pg_name (i := 7) scl_read_thing.nd rfl (Or.inl rfl)) (pgs_cons (pg_name (i := 1) scl_read_thing.nd rfl (Or.inl rfl)) pgs_nil))))
 (pss_one (ps_ret (pe_ifExp (pt_cmpR op_isN (pv 7) pe_non (nomark _)) (pe_tup (pa_cons pe_non (pa_cons (pv 1) pa_nil))) (pe_tup (pa_cons (pe_op op_catA (pv 5) (pe_tup (pa_cons (pv 6) (pa_cons (pv 7) pa_nil)))) (pa_cons (pv 1) pa_nil)))))))))))))))))), ?_⟩
  obtain ⟨svs0, b0, m0, l0, e0, t0⟩ := hL.at (i := p) (by omega)
  refine ⟨_, rfl, _, rfl, a, svs0, (p : Int), _, rfl, rfl, SqL.of l0, atI_nat (j := p) e0, b0, _, 0, _, rfl, rfl, SqT.of t0, rfl, ?_⟩
  by_cases hth2 : th < 12
  rotate_left
  · rw [if_neg (fun h => hth2 h.1)] at q
    refine ⟨_, rfl, rm, _, 0, _, rfl, rfl, SqL.of hrm, rfl, rfl, _, rfl, ite2 (fun _ => iteT ?_) (fun z => absurd (decide_eq_true (by rw [show (12 : Int) - (th : Int) = 0 by omega])) z)⟩
    exact ⟨_, rfl, (by show 2 ≤ sizeLine; decide), fun t3 n3 => q _ _ ((Go.refl _ _).new n3) ⟨t3, .non, rfl, upd_same, rfl⟩ (fun _ _ _ z => by cases z)⟩
  refine ⟨_, rfl, rm, _, 0, _, rfl, rfl, SqL.of hrm, rfl, rfl, _, rfl, ite2 (fun z => absurd (V.int.inj (of_decide_eq_true z)) (by omega)) (fun _ => ?_)⟩
  refine ⟨_, rfl, (by show 6 ≤ sizeLine; decide), fun lk nlk => ?_⟩
  have slk := same_new (o := .lst (kinds.map V.str)) nlk
  refine ⟨lk, _, rfl, .inl (SqL.of upd_same), rfl, rfl, _, rfl, ite2 (fun c => ?_) (fun c => ?_)⟩
  · have c1 : (!inV (.str (tok sg p)) (kinds.map V.str)) = true := c
    rw [inV_str] at c1
    have hk : tok sg p ∉ kinds := fun z => by rw [decide_eq_true z] at c1; cases c1
    rw [if_neg (fun h => hk h.2)] at q
    exact ⟨_, rfl, (by show 2 ≤ sizeLine; decide), fun t3 n3 => q _ _ ((Go.same slk).new n3) ⟨t3, .non, rfl, upd_same, rfl⟩ (fun _ _ _ z => by cases z)⟩
  have c1 : (!inV (.str (tok sg p)) (kinds.map V.str)) = false := Bool.eq_false_iff.mpr c
  rw [inV_str] at c1
  have hk : tok sg p ∈ kinds := by
    by_cases z : tok sg p ∈ kinds
    · exact z
    · rw [decide_eq_false z] at c1; cases c1
  rw [if_pos ⟨hth2, hk⟩] at q
  have nx : p + 1 < sg.length := (tok_cases hok p).2.2 fun z => by rw [z] at hk; exact absurd hk (by decide +kernel)
  -- the room
  have hrm1 := slk _ _ hrm
  refine ⟨_, rfl, rm, _, 0, _, rfl, rfl, SqL.of hrm1, rfl, _, 1, rfl, rfl, _, rfl, rm, _, 0, 0, rfl, rfl, hrm1, rfl, ?_⟩
  have G1 : Go (· = rm) H (upd (upd H lk (.lst (kinds.map V.str))) rm (.lst [.int (12 - (th : Int) - 1)])) := (Go.same slk).set rfl hrm1
  have hrm2 : RmAt (upd (upd H lk (.lst (kinds.map V.str))) rm (.lst [.int (12 - (th : Int) - 1)])) rm (th + 1) := by
    show (upd _ rm _) rm = _
    rw [upd_same]
    show some (HO.lst [V.int (12 - (th : Int) - 1)]) = some (HO.lst [V.int (12 - ((th + 1 : Nat) : Int))])
    rw [show (12 : Int) - (th : Int) - 1 = 12 - ((th + 1 : Nat) : Int) by omega]
  have hL1 := hL.go G1 nar
  refine ⟨_, rfl, (by show 3 ≤ sizeLine; decide), fun l3 nl3 => ?_⟩
  have sl3 := same_new (o := .lst ((["step", "call", "again"] : List Str).map V.str)) nl3
  have G2 := G1.trans (Go.same (M := (· = rm)) sl3)
  have hL2 := hL.go G2 nar
  have hrm3 : RmAt _ rm (th + 1) := sl3 _ _ hrm2
  refine ⟨l3, _, rfl, .inl (SqL.of upd_same), rfl, rfl, _, rfl, ite2 (fun c => ?_) (fun c => ?_)⟩
  · have c2 : inV (.str (tok sg p)) ((["step", "call", "again"] : List Str).map V.str) = true := c
    rw [inV_str] at c2
    have hk3 : tok sg p = "step" ∨ tok sg p = "call" ∨ tok sg p = "again" := by
      simpa only [List.mem_cons, List.not_mem_nil, or_false] using of_decide_eq_true c2
    rw [leaf_free (br2 := fun p _ => .bad p) hk3] at q
    refine ⟨_, rfl, _, rfl, a, sg, p, rfl, hL2, hok, hp, hk3, fun v H3 s3 htl => ?_⟩
    refine q v H3 (G2.trans (Go.same s3)) (tel_set.mpr htl) fun y p' th' z => ?_
    cases hpl : pRest sg (fun p _ => .bad p) (tok sg p) (p + 1) 0 with
    | bad q0 => rw [hpl] at z; cases z
    | ok y0 q0 t0 =>
      rw [hpl] at z
      cases z
      exact s3 _ _ hrm3
  have c2 : inV (.str (tok sg p)) ((["step", "call", "again"] : List Str).map V.str) = false := Bool.eq_false_iff.mpr c
  rw [inV_str] at c2
  have hk3 : tok sg p = "for" ∨ tok sg p = "if" ∨ tok sg p = "double" := by
    have h6 : tok sg p = "step" ∨ tok sg p = "for" ∨ tok sg p = "if" ∨ tok sg p = "double" ∨ tok sg p = "call" ∨ tok sg p = "again" := by
      simpa only [kinds, List.mem_cons, List.not_mem_nil, or_false] using hk
    have h3 := of_decide_eq_false c2
    simp only [List.mem_cons, List.not_mem_nil, or_false, not_or] at h3
    rcases h6 with h | h | h | h | h | h
    · exact absurd h h3.1
    · exact .inl h
    · exact .inr (.inl h)
    · exact .inr (.inr h)
    · exact absurd h h3.2.1
    · exact absurd h h3.2.2
  refine ⟨_, rfl, (by show 1 ≤ sizeLine; decide), fun h0 nh0 => ?_⟩
  have sh0 := same_new (o := .tup [.str (tok sg p)]) nh0
  have G3 := G2.trans (Go.same (M := (· = rm)) sh0)
  have hL3 := hL.go G3 nar
  have hrm4 : RmAt _ rm (th + 1) := sh0 _ _ hrm3
  have hh0 := rp_one (z := tok sg p) nh0
  refine ⟨_, rfl, (p : Int), 1, rfl, rfl, ?_⟩
  have bads : ∀ {Hx : Hp} {q0 : Nat}, Go (· = rm) H Hx → pRest sg (pBracket sg n) (tok sg p) (p + 1) (th + 1) = .bad q0 → ∀ t3, Hx t3 = none → Q (.ref t3) (upd Hx t3 (.tup [.non, .int q0])) := fun {Hx q0} g e t3 n3 => by
    rw [e] at q
    exact q _ _ (g.new n3) ⟨t3, .non, rfl, upd_same, rfl⟩ (fun _ _ _ z => by cases z)
  have goods : ∀ {Hx : Hp} {t : Thing} {q0 th0 : Nat} {x : V}, Go (· = rm) H Hx → pRest sg (pBracket sg n) (tok sg p) (p + 1) (th + 1) = .ok t q0 th0 → vT t x Hx → RmAt Hx rm th0 → ∀ t3, Hx t3 = none → Q (.ref t3) (upd Hx t3 (.tup [x, .int q0])) := fun {Hx t q0 th0 x} g e hv hrmx t3 n3 => by
    rw [e] at q
    refine q _ _ (g.new n3) ⟨t3, x, rfl, upd_same, Rp.to hv (Imm.same (same_new n3)), vT_non hv⟩ fun y p' th' z => ?_
    cases z
    exact same_new n3 _ _ hrmx
  clear q
  rcases hk3 with ew | ew | ew
  · have er : pRest sg (pBracket sg n) (tok sg p) (p + 1) (th + 1) = pFor sg (pBracket sg n) (p + 1) (th + 1) := by rw [ew]; rfl
    rw [er] at bads goods
    have tk1 := (tok_cases hok (p + 1)).1.len
    refine ⟨_, rfl, rfl, _, rfl, ite2 (fun _ => ?_) (fun z => absurd (decide_eq_true (congrArg V.str ew)) z)⟩
    clear e0 t0 l0
    obtain ⟨svs0, b0, m0', l0, e0, t0⟩ := hL3.at (i := p + 1) (by omega)
    refine ⟨_, rfl, _, rfl, a, svs0, _, _, rfl, rfl, SqL.of l0, atI_nat (j := p + 1) e0, b0, _, 0, _, rfl, rfl, SqT.of t0, rfl, tok sg (p + 1), rfl, by omega, fun H4 s4 => ?_⟩
    have G4 := G3.trans (Go.same (M := (· = rm)) s4)
    refine ⟨_, rfl, ite2 (fun c => iteT ?_) (fun c => ?_)⟩
    · have hn := not_true c
      have ep : pFor sg (pBracket sg n) (p + 1) (th + 1) = .bad (p + 1) := by
        have en : pName sg (p + 1) (th + 1) = .bad (p + 1) := if_neg hn
        unfold pFor
        rw [en]
        rfl
      clear e0 t0 l0
      obtain ⟨svs0, b0, m0'', l0, e0, t0⟩ := (hL.go G4 nar).at (i := p + 1) (by omega)
      refine ⟨_, rfl, _, rfl, _, rfl, a, svs0, _, _, rfl, rfl, SqL.of l0, atI_nat (j := p + 1) e0, b0, _, 0, _, rfl, rfl, SqT.of t0, rfl, tok sg (p + 1), rfl, by omega, fun H5 s5 => ?_⟩
      refine .inr ⟨false, congrArg (fun b => [V.bl b]) (Bool.eq_false_iff.mpr hn), ?_⟩
      exact ⟨(p : Int) + 1, 0, rfl, rfl, (by show 2 ≤ sizeLine; decide), fun t3 n3 => bads (G4.trans (Go.same s5)) ep t3 n3⟩
    have hn := not_false c
    have nx2 : p + 1 + 1 < sg.length := name_next hok (.inr hn)
    clear e0 t0 l0
    obtain ⟨svs0, b0, m0'', l0, e0, t0⟩ := (hL.go G4 nar).at (i := p + 1 + 1) (by omega)
    refine ⟨_, rfl, _, rfl, (p : Int) + 1, 1, rfl, rfl, a, svs0, _, _, rfl, rfl, SqL.of l0, atI_nat (j := p + 1 + 1) e0, b0, _, 0, _, rfl, rfl, SqT.of t0, rfl, rfl, _, rfl, ite2 (fun c2 => ?_) (fun c2 => ?_)⟩
    · have hw := not_ne c2
      have ep : pFor sg (pBracket sg n) (p + 1) (th + 1) = .bad (p + 2) := by
        have en : pName sg (p + 1) (th + 1) = .ok (tok sg (p + 1)) (p + 2) (th + 1) := if_pos hn
        have ef : pWord sg "from" (p + 2) (th + 1) = .bad (p + 2) := if_neg hw
        unfold pFor
        rw [en]
        show ((pWord sg "from" (p + 2) (th + 1)).bind _) = _
        rw [ef]
        rfl
      clear e0 t0 l0
      obtain ⟨svs0, b0, m0'', l0, e0, t0⟩ := (hL.go G4 nar).at (i := p + 1) (by omega)
      refine ⟨_, rfl, _, rfl, _, rfl, a, svs0, _, _, rfl, rfl, SqL.of l0, atI_nat (j := p + 1) e0, b0, _, 0, _, rfl, rfl, SqT.of t0, rfl, tok sg (p + 1), rfl, by omega, fun H5 s5 => ?_⟩
      refine .inr ⟨true, congrArg (fun b => [V.bl b]) hn, ?_⟩
      exact ⟨(p : Int) + 1, 1, rfl, rfl, (by show 2 ≤ sizeLine; decide), fun t3 n3 => bads (G4.trans (Go.same s5)) ep t3 n3⟩
    have hw := not_eq c2
    have nx3 : p + 1 + 1 + 1 < sg.length := next_of hok hw (by decide +kernel)
    have es := for_spec (br := pBracket sg n) (th := th + 1) hn hw
    rw [es] at bads goods
    clear e0 t0 l0
    obtain ⟨svs0, b0, m0'', l0, e0, t0⟩ := (hL.go G4 nar).at (i := p + 1) (by omega)
    refine ⟨_, rfl, _, rfl, _, rfl, a, svs0, _, _, rfl, rfl, SqL.of l0, atI_nat (j := p + 1) e0, b0, _, 0, _, rfl, rfl, SqT.of t0, rfl, (by show 1 ≤ sizeLine; decide), fun t1 n1 => ?_⟩
    have st1 := same_new (o := .tup [.str (tok sg (p + 1))]) n1
    refine cat_rp ((hh0.to (Imm.same s4)).to (Imm.same st1)) (rp_tup upd_same (rpl_cons rfl rpl_nil) : Rp _ (.ref t1) (.tup [.str (tok sg (p + 1))])) (by show 1 + 1 ≤ 100000; decide) fun hv5 H5 s5 hR5 => ?_
    have G5 := G4.trans (Go.same (M := (· = rm)) (st1.trans s5))
    have hrm5 : RmAt H5 rm (th + 1) := (s4.trans (st1.trans s5)) _ _ hrm4
    refine ⟨_, rfl, (p : Int) + 1, 2, rfl, rfl, ?_⟩
    refine ⟨_, rfl, rfl, _, rfl, ite2 (fun _ => ?_) (fun z => absurd ((not_eq z).symm.trans ew) (by decide +kernel))⟩
    refine ⟨_, rfl, _, rfl, _, rfl, rfl, _, rfl, ite2 (fun _ => ?_) (fun z => absurd (decide_eq_true (congrArg V.str ew)) z)⟩
    refine ⟨a, sg, p + 3, "to", rfl, hL.go G5 nar, hok, by omega, by decide +kernel, fun v H6 s6 htl => ?_⟩
    replace htl : TelL vEE (pEnds sg "to" (p + 1 + 2)) v H6 := htl
    have G6 := G5.trans (Go.same (M := (· = rm)) s6)
    obtain ⟨tt, x, rfl, htl⟩ := htl
    cases hE : pEnds sg "to" (p + 1 + 2) with
    | bad q0 =>
      rw [hE] at htl bads
      obtain ⟨ht, rfl⟩ := htl
      refine ⟨tt, _, rfl, SqT.of ht, rfl, _, _, rfl, _, _, rfl, rfl, ?_⟩
      refine ⟨_, rfl, rfl, _, rfl, ite2 (fun _ => ?_) (fun z => absurd rfl z)⟩
      exact ⟨_, rfl, (by show 2 ≤ sizeLine; decide), fun t3 n3 => bads G6 rfl t3 n3⟩
    | ok e q1 t1' =>
    have nq := ends_next hok hE
    rw [hE] at htl bads goods
    obtain ⟨ht, hve, hx⟩ := htl
    refine ⟨tt, _, rfl, SqT.of ht, rfl, _, _, rfl, _, _, rfl, rfl, ?_⟩
    refine ⟨_, rfl, rfl, _, rfl, ite2 (fun z => absurd (of_decide_eq_true z) hx) (fun _ => ?_)⟩
    refine ⟨_, rfl, _, rfl, ?_⟩
    refine cat_rp (hR5.to (Imm.same s6)) hve (by show 2 + 2 ≤ 100000; decide) fun hv7 H7 s7 hR7 => ?_
    have G7 := G6.trans (Go.same (M := (· = rm)) s7)
    have hrm7 : RmAt H7 rm (th + 1) := (s6.trans s7) _ _ hrm5
    replace bads : ∀ {Hx : Hp} {q0 : Nat}, Go (· = rm) H Hx → ((pBracket sg n q1 (th + 1)).bind fun c q2 t2 => .ok (Thing.loop (tok sg (p + 1)) e.1 e.2 c) q2 t2) = .bad q0 → ∀ t3, Hx t3 = none → Q (.ref t3) (upd Hx t3 (.tup [.non, .int q0])) := bads
    replace goods : ∀ {Hx : Hp} {t : Thing} {q0 th0 : Nat} {x : V}, Go (· = rm) H Hx → ((pBracket sg n q1 (th + 1)).bind fun c q2 t2 => .ok (Thing.loop (tok sg (p + 1)) e.1 e.2 c) q2 t2) = .ok t q0 th0 → vT t x Hx → RmAt Hx rm th0 → ∀ t3, Hx t3 = none → Q (.ref t3) (upd Hx t3 (.tup [x, .int q0])) := goods
    refine ⟨_, rfl, _, rfl, _, rfl, _, rfl, a, rm, sg, q1, th + 1, dp, rfl, hL.go G7 nar, hok, nq, hrm7, by omega, nar, hdp, fun v8 H8 G8 htl8 hrm8 => ?_⟩
    replace htl8 : TelL vB (pBracket sg n q1 (th + 1)) v8 H8 := htl8
    replace hrm8 : ∀ y p' th', pBracket sg n q1 (th + 1) = .ok y p' th' → RmAt H8 rm th' := hrm8
    have G78 := G7.trans G8
    obtain ⟨tt8, x8, rfl, htl8⟩ := htl8
    cases hB : pBracket sg n q1 (th + 1) with
    | bad q0 =>
      rw [hB] at htl8 bads
      obtain ⟨ht8, rfl⟩ := htl8
      refine ⟨tt8, _, rfl, SqT.of ht8, rfl, _, _, rfl, _, _, rfl, rfl, ?_⟩
      refine ⟨_, rfl, rfl, _, rfl, ite2 (fun _ => iteT ?_) (fun z => absurd rfl z)⟩
      refine ⟨_, rfl, rfl, _, rfl, ite2 (fun _ => ?_) (fun z => absurd rfl z)⟩
      exact ⟨_, rfl, (by show 2 ≤ sizeLine; decide), fun t3 n3 => bads G78 rfl t3 n3⟩
    | ok b q2 th2 =>
    have hrm9 := hrm8 _ _ _ hB
    have nq2 := bracket_nx hok n _ _ _ _ _ nq hB
    have bth := pBracket_ok (sg := sg) n _ _ _ _ _ hB
    rw [hB] at htl8 bads goods
    obtain ⟨ht8, hv8, hx8⟩ := htl8
    refine ⟨tt8, _, rfl, SqT.of ht8, rfl, _, _, rfl, _, _, rfl, rfl, ?_⟩
    refine ⟨_, rfl, rfl, _, rfl, ite2 (fun z => absurd (of_decide_eq_true z) hx8) (fun _ => ?_)⟩
    refine ⟨_, rfl, rfl, _, rfl, ite2 (fun _ => ?_) (fun z => absurd ((not_eq z).symm.trans ew) (by decide +kernel))⟩
    refine ⟨_, rfl, rfl, _, rfl, ite2 (fun z => absurd (of_decide_eq_true z) hx8) (fun _ => ?_)⟩
    refine ⟨_, rfl, _, rfl, (by show 1 ≤ sizeLine; decide), fun t9 n9 => ?_⟩
    have st9 := same_new (o := .tup [x8]) n9
    refine cat_rp ((hR7.to G8.im).to (Imm.same st9)) (rp_tup upd_same (rpl_cons (Rp.to hv8 (Imm.same st9)) rpl_nil) : Rp _ (.ref t9) (.tup [.tup (encs b)])) (by show 4 + 1 ≤ 100000; decide) fun v10 H10 s10 hR10 => ?_
    refine ⟨_, rfl, (by show 2 ≤ sizeLine; decide), fun t11 n11 => ?_⟩
    refine goods (G78.trans (Go.same (st9.trans s10))) rfl ?_ ((st9.trans s10) _ _ hrm9) t11 n11
    rw [ew] at hR10
    exact hR10
  · have er : pRest sg (pBracket sg n) (tok sg p) (p + 1) (th + 1) = pIf sg (pBracket sg n) (p + 1) (th + 1) := by rw [ew]; rfl
    rw [er, if_spec] at bads goods
    refine ⟨_, rfl, rfl, _, rfl, ite2 (fun z => absurd ((V.str.inj (of_decide_eq_true z)).symm.trans ew) (by decide +kernel)) (fun _ => ?_)⟩
    refine ⟨_, rfl, rfl, _, rfl, ite2 (fun _ => ?_) (fun z => absurd ((not_eq z).symm.trans ew) (by decide +kernel))⟩
    refine ⟨_, rfl, _, rfl, _, rfl, rfl, _, rfl, ite2 (fun z => absurd ((V.str.inj (of_decide_eq_true z)).symm.trans ew) (by decide +kernel)) (fun _ => ?_)⟩
    refine ⟨a, sg, p + 1, "<=", rfl, hL.go G3 nar, hok, by omega, by decide +kernel, fun v H6 s6 htl => ?_⟩
    replace htl : TelL vEE (pEnds sg "<=" (p + 1)) v H6 := htl
    have G6 := G3.trans (Go.same (M := (· = rm)) s6)
    obtain ⟨tt, x, rfl, htl⟩ := htl
    cases hE : pEnds sg "<=" (p + 1) with
    | bad q0 =>
      rw [hE] at htl bads
      obtain ⟨ht, rfl⟩ := htl
      refine ⟨tt, _, rfl, SqT.of ht, rfl, _, _, rfl, _, _, rfl, rfl, ?_⟩
      refine ⟨_, rfl, rfl, _, rfl, ite2 (fun _ => ?_) (fun z => absurd rfl z)⟩
      exact ⟨_, rfl, (by show 2 ≤ sizeLine; decide), fun t3 n3 => bads G6 rfl t3 n3⟩
    | ok e q1 t1' =>
    have nq := ends_next hok hE
    rw [hE] at htl bads goods
    obtain ⟨ht, hve, hx⟩ := htl
    refine ⟨tt, _, rfl, SqT.of ht, rfl, _, _, rfl, _, _, rfl, rfl, ?_⟩
    refine ⟨_, rfl, rfl, _, rfl, ite2 (fun z => absurd (of_decide_eq_true z) hx) (fun _ => ?_)⟩
    refine ⟨_, rfl, _, rfl, ?_⟩
    refine cat_rp (hh0.to (Imm.same s6)) hve (by show 1 + 2 ≤ 100000; decide) fun hv7 H7 s7 hR7 => ?_
    have G7 := G6.trans (Go.same (M := (· = rm)) s7)
    have hrm7 : RmAt H7 rm (th + 1) := (s6.trans s7) _ _ hrm4
    replace bads : ∀ {Hx : Hp} {q0 : Nat}, Go (· = rm) H Hx → ((pBracket sg n q1 (th + 1)).bind fun c p th => (pElse sg (pBracket sg n) p th).bind fun d p th => .ok (Thing.test e.1 e.2 c d) p th) = .bad q0 → ∀ t3, Hx t3 = none → Q (.ref t3) (upd Hx t3 (.tup [.non, .int q0])) := bads
    replace goods : ∀ {Hx : Hp} {t : Thing} {q0 th0 : Nat} {x : V}, Go (· = rm) H Hx → ((pBracket sg n q1 (th + 1)).bind fun c p th => (pElse sg (pBracket sg n) p th).bind fun d p th => .ok (Thing.test e.1 e.2 c d) p th) = .ok t q0 th0 → vT t x Hx → RmAt Hx rm th0 → ∀ t3, Hx t3 = none → Q (.ref t3) (upd Hx t3 (.tup [x, .int q0])) := goods
    refine ⟨_, rfl, _, rfl, _, rfl, _, rfl, a, rm, sg, q1, th + 1, dp, rfl, hL.go G7 nar, hok, nq, hrm7, by omega, nar, hdp, fun v8 H8 G8 htl8 hrm8 => ?_⟩
    replace htl8 : TelL vB (pBracket sg n q1 (th + 1)) v8 H8 := htl8
    replace hrm8 : ∀ y p' th', pBracket sg n q1 (th + 1) = .ok y p' th' → RmAt H8 rm th' := hrm8
    have G78 := G7.trans G8
    obtain ⟨tt8, x8, rfl, htl8⟩ := htl8
    cases hB : pBracket sg n q1 (th + 1) with
    | bad q0 =>
      rw [hB] at htl8 bads
      obtain ⟨ht8, rfl⟩ := htl8
      refine ⟨tt8, _, rfl, SqT.of ht8, rfl, _, _, rfl, _, _, rfl, rfl, ?_⟩
      refine ⟨_, rfl, rfl, _, rfl, ite2 (fun _ => iteT ?_) (fun z => absurd rfl z)⟩
      refine ⟨_, rfl, rfl, _, rfl, ite2 (fun _ => ?_) (fun z => absurd rfl z)⟩
      exact ⟨_, rfl, (by show 2 ≤ sizeLine; decide), fun t3 n3 => bads G78 rfl t3 n3⟩
    | ok b q2 th2 =>
    have hrm9 := hrm8 _ _ _ hB
    have nq2 := bracket_nx hok n _ _ _ _ _ nq hB
    have bth := pBracket_ok (sg := sg) n _ _ _ _ _ hB
    rw [hB] at htl8 bads goods
    obtain ⟨ht8, hv8, hx8⟩ := htl8
    refine ⟨tt8, _, rfl, SqT.of ht8, rfl, _, _, rfl, _, _, rfl, rfl, ?_⟩
    refine ⟨_, rfl, rfl, _, rfl, ite2 (fun z => absurd (of_decide_eq_true z) hx8) (fun _ => ?_)⟩
    refine ⟨_, rfl, rfl, _, rfl, ite2 (fun z => absurd ew (not_ne z)) (fun _ => ?_)⟩
    replace bads : ∀ {Hx : Hp} {q0 : Nat}, Go (· = rm) H Hx → ((pElse sg (pBracket sg n) q2 th2).bind fun d p th => .ok (Thing.test e.1 e.2 b d) p th) = .bad q0 → ∀ t3, Hx t3 = none → Q (.ref t3) (upd Hx t3 (.tup [.non, .int q0])) := bads
    replace goods : ∀ {Hx : Hp} {t : Thing} {q0 th0 : Nat} {x : V}, Go (· = rm) H Hx → ((pElse sg (pBracket sg n) q2 th2).bind fun d p th => .ok (Thing.test e.1 e.2 b d) p th) = .ok t q0 th0 → vT t x Hx → RmAt Hx rm th0 → ∀ t3, Hx t3 = none → Q (.ref t3) (upd Hx t3 (.tup [x, .int q0])) := goods
    have hL8 := hL.go G78 nar
    clear e0 t0 l0
    obtain ⟨svs0, b0, m0'', l0, e0, t0⟩ := hL8.at (i := q2) (by omega)
    refine ⟨_, rfl, _, rfl, a, svs0, (q2 : Int), _, rfl, rfl, SqL.of l0, atI_nat (j := q2) e0, b0, _, 0, _, rfl, rfl, SqT.of t0, rfl, rfl, _, rfl, ite2 (fun c => ?_) (fun c => ?_)⟩
    · rw [show pElse sg (pBracket sg n) q2 th2 = .ok [] q2 th2 from if_neg (not_ne c)] at goods
      refine ⟨_, rfl, _, rfl, Nat.zero_le _, fun te ne_ => ⟨(by show 2 ≤ sizeLine; decide), fun t9 n9 => ?_⟩⟩
      have ste := same_new (o := .tup []) ne_
      have st9 := same_new (o := .tup [x8, .ref te]) n9
      have i9 := Imm.same (ste.trans st9)
      refine cat_rp ((hR7.to G8.im).to i9) (rp_tup upd_same (rpl_cons (Rp.to hv8 i9) (rpl_cons (rp_tup (st9 _ _ upd_same) rpl_nil) rpl_nil)) : Rp _ (.ref t9) (.tup [.tup (encs b), .tup (encs [])])) (by show 3 + 2 ≤ 100000; decide) fun v10 H10 s10 hR10 => ?_
      refine ⟨_, rfl, (by show 2 ≤ sizeLine; decide), fun t11 n11 => ?_⟩
      refine goods (G78.trans (Go.same ((ste.trans st9).trans s10))) rfl ?_ (((ste.trans st9).trans s10) _ _ hrm9) t11 n11
      rw [ew] at hR10
      exact hR10
    have hel := not_eq c
    have nq3 := next_of hok hel (by decide +kernel)
    rw [show pElse sg (pBracket sg n) q2 th2 = pBracket sg n (q2 + 1) th2 from if_pos hel] at bads goods
    refine ⟨_, rfl, _, rfl, (q2 : Int), 1, rfl, rfl, _, rfl, _, rfl, a, rm, sg, q2 + 1, th2, dp, rfl, hL8, hok, nq3, hrm9, by omega, nar, hdp, fun v9 H9 G9 htl9 hrm10 => ?_⟩
    replace htl9 : TelL vB (pBracket sg n (q2 + 1) th2) v9 H9 := htl9
    replace hrm10 : ∀ y p' th', pBracket sg n (q2 + 1) th2 = .ok y p' th' → RmAt H9 rm th' := hrm10
    have G89 := G78.trans G9
    obtain ⟨tt9, x9, rfl, htl9⟩ := htl9
    cases hB2 : pBracket sg n (q2 + 1) th2 with
    | bad q0 =>
      rw [hB2] at htl9 bads
      obtain ⟨ht9, rfl⟩ := htl9
      refine ⟨tt9, _, rfl, SqT.of ht9, rfl, _, _, rfl, _, _, rfl, rfl, ?_⟩
      refine ⟨_, rfl, rfl, _, rfl, ite2 (fun _ => ?_) (fun z => absurd rfl z)⟩
      exact ⟨_, rfl, (by show 2 ≤ sizeLine; decide), fun t3 n3 => bads G89 rfl t3 n3⟩
    | ok d q3 th3 =>
      have hrm11 := hrm10 _ _ _ hB2
      rw [hB2] at htl9 goods
      obtain ⟨ht9, hv9, hx9⟩ := htl9
      refine ⟨tt9, _, rfl, SqT.of ht9, rfl, _, _, rfl, _, _, rfl, rfl, ?_⟩
      refine ⟨_, rfl, rfl, _, rfl, ite2 (fun z => absurd (of_decide_eq_true z) hx9) (fun _ => ?_)⟩
      refine ⟨_, rfl, _, rfl, _, rfl, (by show 2 ≤ sizeLine; decide), fun t9 n9 => ?_⟩
      have st9 := same_new (o := .tup [x8, x9]) n9
      have i9 := Imm.same st9
      refine cat_rp (((hR7.to G8.im).to G9.im).to i9) (rp_tup upd_same (rpl_cons (Rp.to hv8 (G9.im.trans i9)) (rpl_cons (Rp.to hv9 i9) rpl_nil)) : Rp _ (.ref t9) (.tup [.tup (encs b), .tup (encs d)])) (by show 3 + 2 ≤ 100000; decide) fun v10 H10 s10 hR10 => ?_
      refine ⟨_, rfl, (by show 2 ≤ sizeLine; decide), fun t11 n11 => ?_⟩
      refine goods (G89.trans (Go.same (st9.trans s10))) rfl ?_ ((st9.trans s10) _ _ hrm11) t11 n11
      rw [ew] at hR10
      exact hR10
  · have er : pRest sg (pBracket sg n) (tok sg p) (p + 1) (th + 1) = pDouble (pBracket sg n) (p + 1) (th + 1) := by rw [ew]; rfl
    rw [er] at bads goods
    refine ⟨_, rfl, rfl, _, rfl, ite2 (fun z => absurd ((V.str.inj (of_decide_eq_true z)).symm.trans ew) (by decide +kernel)) (fun _ => ?_)⟩
    refine ⟨_, rfl, rfl, _, rfl, ite2 (fun z => absurd ew (not_ne z)) (fun _ => ?_)⟩
    replace bads : ∀ {Hx : Hp} {q0 : Nat}, Go (· = rm) H Hx → ((pBracket sg n (p + 1) (th + 1)).bind fun b p th => .ok (Thing.twice b) p th) = .bad q0 → ∀ t3, Hx t3 = none → Q (.ref t3) (upd Hx t3 (.tup [.non, .int q0])) := bads
    replace goods : ∀ {Hx : Hp} {t : Thing} {q0 th0 : Nat} {x : V}, Go (· = rm) H Hx → ((pBracket sg n (p + 1) (th + 1)).bind fun b p th => .ok (Thing.twice b) p th) = .ok t q0 th0 → vT t x Hx → RmAt Hx rm th0 → ∀ t3, Hx t3 = none → Q (.ref t3) (upd Hx t3 (.tup [x, .int q0])) := goods
    refine ⟨_, rfl, _, rfl, _, rfl, _, rfl, a, rm, sg, p + 1, th + 1, dp, rfl, hL3, hok, nx, hrm4, by omega, nar, hdp, fun v H6 G6 htl hrm6 => ?_⟩
    replace htl : TelL vB (pBracket sg n (p + 1) (th + 1)) v H6 := htl
    replace hrm6 : ∀ y p' th', pBracket sg n (p + 1) (th + 1) = .ok y p' th' → RmAt H6 rm th' := hrm6
    have G36 := G3.trans G6
    obtain ⟨tt, x, rfl, htl⟩ := htl
    cases hB : pBracket sg n (p + 1) (th + 1) with
    | bad q0 =>
      rw [hB] at htl bads
      obtain ⟨ht, rfl⟩ := htl
      refine ⟨tt, _, rfl, SqT.of ht, rfl, _, _, rfl, _, _, rfl, rfl, ?_⟩
      refine ⟨_, rfl, rfl, _, rfl, ite2 (fun _ => iteT ?_) (fun z => absurd rfl z)⟩
      refine ⟨_, rfl, rfl, _, rfl, ite2 (fun _ => ?_) (fun z => absurd rfl z)⟩
      exact ⟨_, rfl, (by show 2 ≤ sizeLine; decide), fun t3 n3 => bads G36 rfl t3 n3⟩
    | ok b q1 th1 =>
      have hrm7 := hrm6 _ _ _ hB
      rw [hB] at htl goods
      obtain ⟨ht, hv, hx⟩ := htl
      refine ⟨tt, _, rfl, SqT.of ht, rfl, _, _, rfl, _, _, rfl, rfl, ?_⟩
      refine ⟨_, rfl, rfl, _, rfl, ite2 (fun z => absurd (of_decide_eq_true z) hx) (fun _ => ?_)⟩
      refine ⟨_, rfl, rfl, _, rfl, ite2 (fun _ => ?_) (fun z => absurd ((not_eq z).symm.trans ew) (by decide +kernel))⟩
      refine ⟨_, rfl, rfl, _, rfl, ite2 (fun z => absurd (of_decide_eq_true z) hx) (fun _ => ?_)⟩
      refine ⟨_, rfl, _, rfl, (by show 1 ≤ sizeLine; decide), fun t4 n4 => ?_⟩
      have st4 := same_new (o := .tup [x]) n4
      refine cat_rp ((hh0.to G6.im).to (Imm.same st4)) (rp_tup upd_same (rpl_cons (Rp.to hv (Imm.same st4)) rpl_nil) : Rp _ (.ref t4) (.tup [.tup (encs b)])) (by show 1 + 1 ≤ 100000; decide) fun hv5 H7 s7 hR7 => ?_
      refine ⟨_, rfl, (by show 2 ≤ sizeLine; decide), fun t5 n5 => ?_⟩
      refine goods (G36.trans (Go.same (st4.trans s7))) rfl ?_ ((st4.trans s7) _ _ hrm7) t5 n5
      rw [ew] at hR7
      exact hR7
end
end K05

set_option Elab.async false
set_option linter.all false
set_option maxRecDepth 100000
set_option maxHeartbeats 4000000
namespace K05
open PySem PySem.Spec PyProof.Rows L2 OG
open C8 (pss_cut pe_gc)
open OGX

section
variable {P : Program} {w : World} {K : PySem.W.Frag} {mg : Str → Option Value} {base : Heap}
theorem ok_l_read_body (T : Tops w K mg) (n : Nat) (Gl_read_thing : FnOk P w K mg base CX0 (3 * n + 6) T.fl_read_thing T.dl_read_thing ["_law_signs", "_law_at", "_law_deep", "_law_room"] (spLThing n)) : FnOk P w K mg base CX0 (3 * n + 6 + 1) T.fl_read_body T.dl_read_body ["_law_signs", "_law_at", "_law_deep", "_law_room"] (spLBody n) := by
  refine T.Fl_read_body.ok (k := 3 * n + 6) scl_read_body (fun vs H Q E h => ?_) (fun cdv A outer s H vs Q E hr h => ?_)
  · obtain ⟨a, rm, sg, p, th, dp, rfl, _⟩ := h
    rfl
  obtain ⟨a, rm, sg, p, th, dp, rfl, hL, hok, hp, hrm, hth, nar, hdp, q⟩ := h
  replace q : ∀ v H', Go (· = rm) H H' → TelL vB ((pThing sg (pBracket sg n) p th).bind fun t p th => pLoop sg (pThing sg (pBracket sg n)) 13 [t] p th) v H' → (∀ y p' th', ((pThing sg (pBracket sg n) p th).bind fun t p th => pLoop sg (pThing sg (pBracket sg n)) 13 [t] p th) = .ok y p' th' → RmAt H' rm th') → Q v H' := q
  refine ⟨_, (pss_cons (ps_set (i := 4) scl_read_body.nd rfl (Or.inl rfl) (pe_tup pa_nil))
 (pss_one (ps_while PassesOwn.never (pt_val pe_bl)
  (pss_cons (ps_asg (pe_call Gl_read_thing (hr.mono (by omega)) (by rfl) T.gl_read_thing T.Fl_read_thing.kp T.bl_read_thing .nil pass0 (pa_cons (pv 0) (pa_cons (pv 1) (pa_cons (pv 2) (pa_cons (pv 3) pa_nil))))) (pg_tup rfl (pgs_cons (pg_name (i := 5) scl_read_body.nd rfl (Or.inl rfl)) (pgs_cons (pg_name (i := 1) scl_read_body.nd rfl (Or.inl rfl)) pgs_nil))))
 (pss_cons (ps_if (pt_cmpR op_isN (pv 5) pe_non (nomark _))
  (pss_one (ps_ret (pe_tup (pa_cons pe_non (pa_cons (pv 1) pa_nil)))))
  pss_nil)
 (pss_cons (ps_set (i := 4) scl_read_body.nd rfl (Or.inl rfl) (pe_op op_catA (pv 4) (pe_tup (pa_cons (pv 5) pa_nil))))
 (pss_cons (ps_if (pt_cmpR op_ne (pe_ix ix_tup (pe_ix ix_list (pv 0) (pv 1) (fun _ _ => rfl)) pe_int (fun _ _ => rfl)) pe_str (nomark _))
  (pss_one (ps_ret (pe_tup (pa_cons (pv 4) (pa_cons (pv 1) pa_nil)))))
  pss_nil)
 (pss_one (ps_set (i := 1) scl_read_body.nd rfl (Or.inl rfl) (pe_op op_add (pv 1) pe_int)))))))))), ?_⟩
  refine ⟨Nat.zero_le _, fun f0 nf0 => ?_⟩
  have sf0 := same_new (o := .tup []) nf0
  refine ⟨fun m σ H' => ∃ (vf : V) (acc : List Thing) (p' th' f : Nat) (x5 : Option V), σ = [some (.ref a), some (.int p'), some (.int dp), some (.ref rm), some vf, x5] ∧ m = 12 - th' ∧ th' ≤ 12 ∧ 12 - th' < f ∧ acc.length ≤ th' ∧ p' < sg.length ∧ Go (· = rm) H H' ∧ RmAt H' rm th' ∧ Rp H' vf (.tup (encs acc)) ∧ ((pThing sg (pBracket sg n) p th).bind fun t p th => pLoop sg (pThing sg (pBracket sg n)) 13 [t] p th) = (pThing sg (pBracket sg n) p' th').bind fun t p th => pLoop sg (pThing sg (pBracket sg n)) f (acc ++ [t]) p th,
    ⟨12 - th, .ref f0, [], p, th, 13, none, rfl, rfl, hth, by omega, Nat.zero_le _, hp, Go.same sf0, sf0 _ _ hrm, rp_tup upd_same rpl_nil, rfl⟩, ?_⟩
  rintro m σ H1 ⟨vf, acc, p1, th1, f, x5, rfl, rfl, hth1, hf, hacc, hp1, G1, hrm1, hvf, eq1⟩
  refine ⟨true, rfl, iteT ⟨_, fun σ' H' z => z, ?_⟩⟩
  refine ⟨_, rfl, _, rfl, _, rfl, _, rfl, a, rm, sg, p1, th1, dp, rfl, hL.go G1 nar, hok, hp1, hrm1, hth1, nar, hdp, fun v H2 G2 htl hrm2 => ?_⟩
  replace htl : TelL vT (pThing sg (pBracket sg n) p1 th1) v H2 := htl
  replace hrm2 : ∀ y p' th', pThing sg (pBracket sg n) p1 th1 = .ok y p' th' → RmAt H2 rm th' := hrm2
  have G12 := G1.trans G2
  rw [eq1] at q
  obtain ⟨tt, x, rfl, htl⟩ := htl
  cases hT : pThing sg (pBracket sg n) p1 th1 with
  | bad q0 =>
    rw [hT] at htl q
    obtain ⟨ht, rfl⟩ := htl
    refine ⟨tt, _, rfl, SqT.of ht, rfl, _, _, rfl, _, _, rfl, rfl, ?_⟩
    refine ⟨_, rfl, rfl, _, rfl, ite2 (fun _ => ?_) (fun z => absurd rfl z)⟩
    exact ⟨_, rfl, (by show 2 ≤ sizeLine; decide), fun t3 n3 => q _ _ (G12.new n3) ⟨t3, .non, rfl, upd_same, rfl⟩ (fun _ _ _ z => by cases z)⟩
  | ok t p2 th2 =>
    have hrm3 := hrm2 _ _ _ hT
    have ht2 := pThing_th (pBracket_ok n) hT
    have nq := thing_nx hok (bracket_nx hok n) hT
    rw [hT] at htl q eq1
    obtain ⟨ht, hv, hx⟩ := htl
    refine ⟨tt, _, rfl, SqT.of ht, rfl, _, _, rfl, _, _, rfl, rfl, ?_⟩
    refine ⟨_, rfl, rfl, _, rfl, ite2 (fun z => absurd (of_decide_eq_true z) hx) (fun _ => ?_)⟩
    refine ⟨_, rfl, _, rfl, (by show 1 ≤ sizeLine; decide), fun t4 n4 => ?_⟩
    have st4 := same_new (o := .tup [x]) n4
    refine cat_rp ((hvf.to G2.im).to (Imm.same st4)) (rp_tup upd_same (rpl_cons (Rp.to hv (Imm.same st4)) rpl_nil) : Rp _ (.ref t4) (.tup (encs [t]))) (by rw [encs_length, encs_length]; show acc.length + 1 ≤ 100000; omega) fun v5 H5 s5 hR5 => ?_
    rw [← encs_append] at hR5
    have G5 := G12.trans (Go.same (M := (· = rm)) (st4.trans s5))
    have hrm5 : RmAt H5 rm th2 := (st4.trans s5) _ _ hrm3
    obtain ⟨f', rfl⟩ : ∃ f', f = f' + 1 := ⟨f - 1, by omega⟩
    replace q : ∀ v H', Go (· = rm) H H' → TelL vB (pLoop sg (pThing sg (pBracket sg n)) (f' + 1) (acc ++ [t]) p2 th2) v H' → (∀ y p' th', pLoop sg (pThing sg (pBracket sg n)) (f' + 1) (acc ++ [t]) p2 th2 = .ok y p' th' → RmAt H' rm th') → Q v H' := q
    replace eq1 : ((pThing sg (pBracket sg n) p th).bind fun t p th => pLoop sg (pThing sg (pBracket sg n)) 13 [t] p th) = pLoop sg (pThing sg (pBracket sg n)) (f' + 1) (acc ++ [t]) p2 th2 := eq1
    obtain ⟨svs0, b0, m0, l0, e0, t0⟩ := (hL.go G5 nar).at (i := p2) (by omega)
    refine ⟨_, rfl, _, rfl, a, svs0, (p2 : Int), _, rfl, rfl, SqL.of l0, atI_nat (j := p2) e0, b0, _, 0, _, rfl, rfl, SqT.of t0, rfl, rfl, _, rfl, ite2 (fun c => ?_) (fun c => ?_)⟩
    · rw [pLoop, if_neg (not_ne c)] at q
      refine ⟨_, rfl, _, rfl, (by show 2 ≤ sizeLine; decide), fun t6 n6 => ?_⟩
      refine q _ _ (G5.new n6) ⟨t6, v5, rfl, upd_same, Rp.to hR5 (Imm.same (same_new n6)), vB_non hR5⟩ fun y p' th' z => ?_
      cases z
      exact same_new n6 _ _ hrm5
    · rw [pLoop, if_pos (not_eq c)] at eq1
      refine ⟨_, rfl, (p2 : Int), 1, rfl, rfl, ?_⟩
      exact ⟨12 - th2, by omega, v5, acc ++ [t], p2 + 1, th2, f', _, rfl, rfl, ht2.2, by omega, by rw [List.length_append]; show acc.length + 1 ≤ th2; omega, next_of hok (not_eq c) (by decide +kernel), G5, hrm5, hR5, eq1⟩
theorem ok_l_reading1 (T : Tops w K mg) : ∀ n : Nat, FnOk P w K mg base CX0 (3 * n + 7) T.fl_read_body T.dl_read_body ["_law_signs", "_law_at", "_law_deep", "_law_room"] (spLBody n)
  | 0 => ok_l_read_body T 0 (ok_l_read_thing T 0 (ok_l_read_bracket0 T))
  | n + 1 => ok_l_read_body T (n + 1) (ok_l_read_thing T (n + 1) (ok_l_read_bracket T n (ok_l_reading1 T n)))
theorem ok_l_reading (T : Tops w K mg) : FnOk P w K mg base CX0 20 T.fl_reading T.dl_reading ["_law_text"] spReading := by
  have Gl_cut_up : FnOk P w K mg base CX0 1 T.fl_cut_up T.dl_cut_up ["_law_text"] spCut := ok_cut_up T
  have Gl_read_body : FnOk P w K mg base CX0 19 T.fl_read_body T.dl_read_body ["_law_signs", "_law_at", "_law_deep", "_law_room"] (spLBody 4) := ok_l_reading1 T 4
  refine T.Fl_reading.ok (k := 19) scl_reading (fun vs H Q E h => ?_) (fun cdv A outer s H vs Q E hr h => ?_)
  · obtain ⟨z, rfl, _⟩ := h
    rfl
  obtain ⟨z, rfl, hz, q⟩ := h
  refine ⟨_, (pss_cons (ps_set (i := 1) scl_reading.nd rfl (Or.inl rfl) (pe_call Gl_cut_up (hr.mono (by omega)) (by rfl) T.gl_cut_up T.Fl_cut_up.kp T.bl_cut_up .nil pass0 (pa_cons (pv 0) pa_nil)))
 (pss_cons (ps_if (pt_val (pe_callB call_isi (by rfl) T.misinstance (by decide +kernel) (pa_cons (pv 1) (pa_cons (pe_bltn (v := .ty "int") (by rfl) T.mint (by decide +kernel) rfl) pa_nil))))
  (pss_one (ps_ret (pe_tup (pa_cons pe_str (pa_cons (pv 1) pa_nil)))))
  pss_nil)
 (pss_cons (ps_asg (pe_call Gl_read_body (hr.mono (by omega)) (by rfl) T.gl_read_body T.Fl_read_body.kp T.bl_read_body .nil pass0 (pa_cons (pe_op op_cat (pv 1) (pe_op op_rep (pe_lst (pa_cons (pe_tup (pa_cons pe_str (pa_cons (pe_callB call_len_str (by rfl) T.mlen PySem.boot_len (pa_cons (pv 0) pa_nil)) pa_nil))) pa_nil)) pe_int)) (pa_cons pe_int (pa_cons pe_int (pa_cons (pe_lst (pa_cons pe_int pa_nil)) pa_nil))))) (pg_tup rfl (pgs_cons (pg_name (i := 2) scl_reading.nd rfl (Or.inl rfl)) (pgs_cons (pg_name (i := 3) scl_reading.nd rfl (Or.inl rfl)) pgs_nil))))
 (pss_cons (ps_if (PW.pt (pw_or (pt_cmpR op_isN (pv 2) pe_non (nomark _)) (pw_or1 (pt_cmpR op_ne (pe_ix ix_tup (pe_ix ix_list (pv 1) (pe_callB (call_min2 rfl) (by rfl) T.mmin (by decide +kernel) (pa_cons (pv 3) (pa_cons (pe_op op_sub (pe_callB call_len_seq (by rfl) T.mlen PySem.boot_len (pa_cons (pv 1) pa_nil)) pe_int) pa_nil))) (fun _ _ => rfl)) pe_int (fun _ _ => rfl)) pe_str (nomark _)))))
  (pss_one (ps_ret (pe_tup (pa_cons pe_str (pa_cons (pe_ix ix_tup (pe_ix ix_list (pv 1) (pe_callB (call_min2 rfl) (by rfl) T.mmin (by decide +kernel) (pa_cons (pv 3) (pa_cons (pe_op op_sub (pe_callB call_len_seq (by rfl) T.mlen PySem.boot_len (pa_cons (pv 1) pa_nil)) pe_int) pa_nil))) (fun _ _ => rfl)) pe_int (fun _ _ => rfl)) pa_nil)))))
  pss_nil)
 (pss_one (ps_ret (pe_tup (pa_cons pe_str (pa_cons (pv 2) pa_nil))))))))), ?_⟩
  refine ⟨_, rfl, z, rfl, by omega, ?_⟩
  cases hlx : lexW (tl z) 0 with
  | bad p =>
    have er : readAll z = .bad p := by unfold readAll; rw [hlx]
    rw [er] at q
    intro H1 s1
    refine ⟨_, rfl, .int p, .ty "int", .type "int", _, true, rfl, .ty _, .base (.int _), kit_ty (by decide +kernel), true, rfl, iteT ?_⟩
    refine ⟨_, rfl, (by show 2 ≤ sizeLine; decide), fun t3 n3 => ?_⟩
    exact q _ _ (s1.trans (same_new n3)) (rp_tup upd_same (rpl_cons rfl (rpl_cons rfl rpl_nil)))
  | ok s1 =>
  intro a1 H1 sm na1 hsg
  have ltk := lex_tk _ _ _ _ (Nat.le_refl _) hlx
  have lz := len_tl z
  have hsgs : SgsOk (s1 ++ [(("" : Str), z.length)]) := ⟨s1, z.length, rfl, fun x hx => ⟨(ltk.1 x hx).1, (ltk.1 x hx).2.1, by have := (ltk.1 x hx).2.2; omega⟩, by omega, by omega⟩
  have er : readAll z = (match (pBody (s1 ++ [(("" : Str), z.length)]) (pThing (s1 ++ [(("" : Str), z.length)]) (pBracket (s1 ++ [(("" : Str), z.length)]) 4)) 0 0).bind (fun b p th => if tok (s1 ++ [(("" : Str), z.length)]) p = "" then PR.ok b p th else .bad p) with
    | .ok ts _ _ => .told ts
    | .bad p => .bad (spot (s1 ++ [(("" : Str), z.length)]) p)) := by
    unfold readAll
    rw [hlx]
    rfl
  rw [er] at q
  have lsg : (s1 ++ [(("" : Str), z.length)]).length = s1.length + 1 := by rw [List.length_append]; rfl
  have tend : ∀ i, s1.length ≤ i → tok (s1 ++ [(("" : Str), z.length)]) i = "" := fun i hi => by
    by_cases e : tok (s1 ++ [(("" : Str), z.length)]) i = ""
    · exact e
    · have := (tok_cases hsgs i).2.2 e
      omega
  generalize hsgq : s1 ++ [(("" : Str), z.length)] = sg at *
  obtain ⟨svs, k1, k2, k3⟩ := id hsg
  refine ⟨_, rfl, .ref a1, .ty "int", .type "list", _, false, rfl, .ty _, .base (.lst k1), kit_ty (by decide +kernel), false, rfl, iteF ?_⟩
  refine ⟨_, rfl, _, rfl, z, rfl, sz (by omega), (by show 2 ≤ sizeLine; decide), fun t nt => ⟨(by show 1 ≤ sizeLine; decide), fun l nl => ?_⟩⟩
  have st := same_new (o := .tup [.str "", .int (z.length : Int)]) nt
  have sl := same_new (o := .lst [.ref t]) nl
  refine ⟨l, 4, [.ref t], rfl, rfl, upd_same, by decide, by decide, (by show 1 * 4 ≤ sizeLine; decide), fun l4 nl4 => ?_⟩
  have sl4 := same_new (o := .lst [.ref t, .ref t, .ref t, .ref t]) nl4
  have s14 := (st.trans sl).trans sl4
  refine ⟨a1, l4, svs, [.ref t, .ref t, .ref t, .ref t], rfl, rfl, s14 _ _ k1, upd_same, ?_, fun a2 na2 => ?_⟩
  · rw [k2]
    show sg.length + 4 ≤ sizeLine
    exact sz (by omega)
  have sa2 := same_new (o := .lst (svs ++ [.ref t, .ref t, .ref t, .ref t])) na2
  have s15 := s14.trans sa2
  refine ⟨(by show 1 ≤ sizeLine; decide), fun rm nrm => ?_⟩
  have srm := same_new (o := .lst [.int 12]) nrm
  have s16 := s15.trans srm
  have nar : a2 ≠ rm := ne_of_none (upd_same : (upd _ a2 (.lst (svs ++ [.ref t, .ref t, .ref t, .ref t]))) a2 = _) nrm
  have hL : SgL _ a2 sg := ⟨svs ++ [.ref t, .ref t, .ref t, .ref t], srm _ _ upd_same, by rw [List.length_append, k2]; rfl, fun i hi => by
    by_cases h : i < sg.length
    · obtain ⟨b, j1, j2⟩ := k3 i _ (tok_at h)
      exact ⟨b, _, by rw [List.getElem?_append_left (by rw [k2]; exact h)]; exact j1, s16 _ _ j2⟩
    · refine ⟨t, z.length, ?_, ?_⟩
      · rw [List.getElem?_append_right (by rw [k2]; omega), k2]
        have : i - sg.length = 0 ∨ i - sg.length = 1 ∨ i - sg.length = 2 ∨ i - sg.length = 3 := by omega
        rcases this with e | e | e | e <;> (rw [e]; rfl)
      · rw [tend i (by omega)]
        exact (((sl.trans sl4).trans sa2).trans srm) _ _ upd_same⟩
  refine ⟨a2, rm, sg, 0, 0, 0, rfl, hL, hsgs, by omega, ?_, by omega, nar, rfl, fun v H2 G2 htl _ => ?_⟩
  · show _ = some (HO.lst [V.int (12 - ((0 : Nat) : Int))])
    exact upd_same
  replace htl : TelL vB (pBody sg (pThing sg (pBracket sg 4)) 0 0) v H2 := htl
  have nrmH : H1 rm = none := s15.free nrm
  have s12 : Same H1 H2 := fun b u hb => G2.sx b u (ne_of_none hb nrmH) (s16 b u hb)
  have good := good_body hsgs 4 (p := 0) (th := 0) (by omega)
  have ksv := s12 _ _ k1
  -- a place among the signs
  have at_ : ∀ q0, q0 < sg.length → ∃ b, svs[q0]? = some (.ref b) ∧ H2 b = some (.tup [.str (tok sg q0), .int (spot sg q0)]) := fun q0 h => by
    obtain ⟨b, j1, j2⟩ := k3 q0 _ (tok_at h)
    exact ⟨b, j1, s12 _ _ j2⟩
  have emin : ∀ q0 : Nat, q0 < sg.length → (if ((svs.length : Int) - 1) < (q0 : Int) then ((svs.length : Int) - 1) else (q0 : Int)) = (q0 : Int) := fun q0 h => if_neg (by rw [k2]; omega)
  obtain ⟨tt, x, rfl, htl⟩ := htl
  cases hR : pBody sg (pThing sg (pBracket sg 4)) 0 0 with
  | bad q0 =>
    rw [hR] at htl q good
    have lq : q0 < sg.length := good
    obtain ⟨ht, rfl⟩ := htl
    refine ⟨tt, _, rfl, SqT.of ht, rfl, _, _, rfl, _, _, rfl, rfl, ?_⟩
    refine ⟨_, rfl, rfl, _, rfl, ite2 (fun _ => iteT ?_) (fun z => absurd rfl z)⟩
    obtain ⟨b, j1, j2⟩ := at_ q0 lq
    refine ⟨_, rfl, _, rfl, _, rfl, a1, svs, rfl, .inl (SqL.of ksv), _, 1, rfl, rfl, (q0 : Int), _, rfl, ?_⟩
    rw [emin q0 lq]
    refine ⟨a1, svs, _, _, rfl, rfl, SqL.of ksv, atI_nat (j := q0) j1, b, _, 1, _, rfl, rfl, SqT.of j2, rfl, (by show 2 ≤ sizeLine; decide), fun t3 n3 => ?_⟩
    exact q _ _ ((sm.trans s12).trans (same_new n3)) (rp_tup upd_same (rpl_cons rfl (rpl_cons rfl rpl_nil)))
  | ok ts q0 th0 =>
    rw [hR] at htl q good
    have lq : q0 < sg.length := good
    obtain ⟨ht, hv, hx⟩ := htl
    refine ⟨tt, _, rfl, SqT.of ht, rfl, _, _, rfl, _, _, rfl, rfl, ?_⟩
    refine ⟨_, rfl, rfl, _, rfl, ite2 (fun z => absurd (of_decide_eq_true z) hx) (fun _ => ?_)⟩
    obtain ⟨b, j1, j2⟩ := at_ q0 lq
    refine ⟨_, rfl, _, rfl, _, rfl, a1, svs, rfl, .inl (SqL.of ksv), _, 1, rfl, rfl, (q0 : Int), _, rfl, ?_⟩
    rw [emin q0 lq]
    refine ⟨a1, svs, _, _, rfl, rfl, SqL.of ksv, atI_nat (j := q0) j1, b, _, 0, _, rfl, rfl, SqT.of j2, rfl, rfl, _, rfl, ite2 (fun c => ?_) (fun c => ?_)⟩
    · replace q : ∀ v H', Same H H' → Rp H' v (encRR (match (if tok sg q0 = "" then PR.ok ts q0 th0 else .bad q0) with | .ok ts _ _ => .told ts | .bad p => .bad (spot sg p))) → Q v H' := q
      rw [if_neg (not_ne c)] at q
      refine ⟨_, rfl, _, rfl, _, rfl, a1, svs, rfl, .inl (SqL.of ksv), _, 1, rfl, rfl, (q0 : Int), _, rfl, ?_⟩
      rw [emin q0 lq]
      refine ⟨a1, svs, _, _, rfl, rfl, SqL.of ksv, atI_nat (j := q0) j1, b, _, 1, _, rfl, rfl, SqT.of j2, rfl, (by show 2 ≤ sizeLine; decide), fun t3 n3 => ?_⟩
      exact q _ _ ((sm.trans s12).trans (same_new n3)) (rp_tup upd_same (rpl_cons rfl (rpl_cons rfl rpl_nil)))
    · replace q : ∀ v H', Same H H' → Rp H' v (encRR (match (if tok sg q0 = "" then PR.ok ts q0 th0 else .bad q0) with | .ok ts _ _ => .told ts | .bad p => .bad (spot sg p))) → Q v H' := q
      rw [if_pos (not_eq c)] at q
      refine ⟨_, rfl, (by show 2 ≤ sizeLine; decide), fun t3 n3 => ?_⟩
      exact q _ _ ((sm.trans s12).trans (same_new n3)) (rp_tup upd_same (rpl_cons rfl (rpl_cons (Rp.to hv (Imm.same (same_new n3))) rpl_nil)))
end
end K05

set_option Elab.async false
set_option linter.all false
set_option maxRecDepth 100000
set_option maxHeartbeats 4000000
namespace K05
open PySem PySem.Spec PyProof.Rows L2 OG
open C8 (pss_cut pe_gc)
open OGX

section
variable {P : Program} {w : World} {K : PySem.W.Frag} {mg : Str → Option Value} {base : Heap}
theorem ok_some_end (T : Tops w K mg) : FnOk P w K mg base CX0 3 T.fl_some_end T.dl_some_end ["_law_draw", "_law_scope", "_law_wide"] spSomeEnd := by
  have Gl_take : FnOk P w K mg base CX0 1 T.fl_take T.dl_take ["_law_draw", "_law_sides"] spTake := ok_take T
  have Gl_pick : FnOk P w K mg base CX0 2 T.fl_pick T.dl_pick ["_law_draw", "_law_row"] (spPick K) := ok_pick T
  refine T.Fl_some_end.ok (k := 2) scl_some_end (fun vs H Q E h => ?_) (fun cdv A outer s H vs Q E hr h => ?_)
  · obtain ⟨d, L, sc, ns, wide, rfl, _⟩ := h
    rfl
  obtain ⟨d, L, sc, ns, wide, rfl, hD, hsc, nsd, hne, hlen, q⟩ := h
  refine ⟨_, (pss_cons (ps_set (i := 3) scl_some_end.nd rfl (Or.inl rfl) (pe_ix ix_list (pe_lst (pa_cons pe_int (pa_cons (pe_call Gl_take (hr.mono (by omega)) (by rfl) T.gl_take T.Fl_take.kp T.bl_take .nil pass0 (pa_cons (pv 0) (pa_cons pe_int pa_nil))) (pa_cons (pe_call Gl_take (hr.mono (by omega)) (by rfl) T.gl_take T.Fl_take.kp T.bl_take .nil pass0 (pa_cons (pv 0) (pa_cons (pe_ix ix_list (pe_lst (pa_cons pe_int (pa_cons pe_int pa_nil))) (pe_callTy call_int1 (by rfl) T.mint (by decide +kernel) (pa_cons (pv 2) pa_nil)) (fun _ _ => rfl)) pa_nil))) pa_nil)))) (pe_call Gl_take (hr.mono (by omega)) (by rfl) T.gl_take T.Fl_take.kp T.bl_take .nil pass0 (pa_cons (pv 0) (pa_cons pe_int pa_nil))) (fun _ _ => rfl)))
 (pss_cons (ps_if (pt_cmpR op_eq (pe_call Gl_take (hr.mono (by omega)) (by rfl) T.gl_take T.Fl_take.kp T.bl_take .nil pass0 (pa_cons (pv 0) (pa_cons pe_int pa_nil))) pe_int (nomark _))
  (pss_one (ps_ret (pe_tup (pa_cons pe_str (pa_cons (pv 3) pa_nil)))))
  pss_nil)
 (pss_one (ps_ret (pe_tup (pa_cons (pe_call Gl_pick (hr.mono (by omega)) (by rfl) T.gl_pick T.Fl_pick.kp T.bl_pick .nil pass0 (pa_cons (pv 0) (pa_cons (pv 1) pa_nil))) (pa_cons (pe_op op_mul (pv 3) (pe_ix ix_list (pe_lst (pa_cons pe_int (pa_cons (pe_un un_neg pe_int) pa_nil))) (pe_call Gl_take (hr.mono (by omega)) (by rfl) T.gl_take T.Fl_take.kp T.bl_take .nil pass0 (pa_cons (pv 0) (pa_cons pe_int pa_nil))) (fun _ _ => rfl))) pa_nil))))))), ?_⟩
  -- more
  refine ⟨_, rfl, d, L, 5, rfl, hD, by decide, by decide, fun g1 H1 a1 b1 hD1 hB1 => ?_⟩
  have G1 : Go (· = d) H H1 := Go.but hD hB1 rfl
  refine ⟨_, rfl, (by show 2 ≤ sizeLine; decide), fun l nl => ?_⟩
  have hw : ∃ k : Int, atI [V.int 5, .int 100] (if wide = true then 1 else 0) = some (.int k) ∧ 1 ≤ k ∧ k ≤ 100 := by
    cases wide
    · exact ⟨5, rfl, by decide, by decide⟩
    · exact ⟨100, rfl, by decide, by decide⟩
  obtain ⟨kw, hkw, kw1, kw2⟩ := hw
  refine ⟨_, rfl, .inr ⟨wide, rfl, l, _, _, _, rfl, rfl, SqL.of upd_same, hkw, d, L, kw, rfl, hD1.new nl, kw1, by omega, fun g2 H2 a2 b2 hD2 hB2 => ?_⟩⟩
  have G2 : Go (· = d) H H2 := (G1.new nl).trans (Go.but (hD1.new nl) hB2 rfl)
  refine ⟨(by show 3 ≤ sizeLine; decide), fun l2 nl2 => ?_⟩
  refine ⟨_, rfl, d, L, 3, rfl, hD2.new nl2, by decide, by decide, fun g3 H3 a3 b3 hD3 hB3 => ?_⟩
  have G3 : Go (· = d) H H3 := (G2.new nl2).trans (Go.but (hD2.new nl2) hB3 rfl)
  have hl2 : H3 l2 = some (.lst [.int 0, .int g1, .int g2]) := by
    rw [hB3 l2 (hD2.neNew nl2).1]
    exact upd_same
  obtain ⟨v, hv, hm⟩ := atI_lt (xs := [V.int 0, .int g1, .int g2]) a3 b3
  obtain ⟨m, rfl, hm2⟩ := mem_ints3 hm
  have m0 : 0 ≤ m ∧ m ≤ 99 := by omega
  refine ⟨l2, _, g3, _, rfl, rfl, SqL.of hl2, hv, ?_⟩
  -- if take(draw, 3) == 0
  refine ⟨_, rfl, d, L, 3, rfl, hD3, by decide, by decide, fun g4 H4 a4 b4 hD4 hB4 => ?_⟩
  have G4 : Go (· = d) H H4 := G3.trans (Go.but hD3 hB4 rfl)
  refine ⟨rfl, _, rfl, ite2 (fun c1 => ?_) (fun c1 => ?_)⟩
  · refine ⟨_, rfl, (by show 2 ≤ sizeLine; decide), fun p np => ?_⟩
    exact q _ ("", m) _ (rp_tup upd_same (rpl_cons rfl (rpl_cons rfl rpl_nil))) (.inl ⟨rfl, m0.1, m0.2⟩) (hD4.new np) (G4.new np)
  · have hsc4 := G4.at hsc nsd
    have hpos : 0 < ns.length := List.length_pos_iff.mpr hne
    refine ⟨_, rfl, _, rfl, d, L, _, ns.length, rfl, hD4, hpos, by omega, .inr ⟨sc, ns.map V.str, rfl, nsd, SqL.of hsc4, List.length_map _, fun y H5 hy hD5 hB5 => ?_⟩⟩
    obtain ⟨x, rfl, hx⟩ := mem_strs hy
    have G5 : Go (· = d) H H5 := G4.trans (Go.but hD4 hB5 rfl)
    refine ⟨_, rfl, 1, rfl, (by show 2 ≤ sizeLine; decide), fun l3 nl3 => ?_⟩
    refine ⟨_, rfl, d, L, 2, rfl, hD5.new nl3, by decide, by decide, fun g6 H6 a6 b6 hD6 hB6 => ?_⟩
    have G6 : Go (· = d) H H6 := (G5.new nl3).trans (Go.but (hD5.new nl3) hB6 rfl)
    have hl3 : H6 l3 = some (.lst [.int 1, .int (-1)]) := by
      rw [hB6 l3 (hD5.neNew nl3).1]
      exact upd_same
    obtain ⟨v2, hv2, hmm⟩ := atI_lt (xs := [V.int 1, .int (-1)]) a6 b6
    obtain ⟨s2, rfl, hs2⟩ := mem_ints2 hmm
    refine ⟨l3, _, g6, _, rfl, rfl, SqL.of hl3, hv2, m, s2, rfl, rfl, .inl ⟨by omega, by omega⟩, ?_⟩
    refine ⟨(by show 2 ≤ sizeLine; decide), fun p np => ?_⟩
    have b1 : -99 ≤ m * s2 ∧ m * s2 ≤ 99 := by
      rcases hs2 with rfl | rfl
      · omega
      · omega
    exact q _ (x, m * s2) _ (rp_tup upd_same (rpl_cons rfl (rpl_cons rfl rpl_nil))) (.inr ⟨hx, b1.1, b1.2⟩) (hD6.new np) (G6.new np)
theorem ok_leaf (T : Tops w K mg) : FnOk P w K mg base CX0 4 T.fl_leaf T.dl_leaf ["_law_draw", "_law_kit", "_law_scope", "_law_deep"] spLeaf := by
  have Gl_take : FnOk P w K mg base CX0 1 T.fl_take T.dl_take ["_law_draw", "_law_sides"] spTake := ok_take T
  refine T.Fl_leaf.ok (k := 3) scl_leaf (fun vs H Q E h => ?_) (fun cdv A outer s H vs Q E hr h => ?_)
  · obtain ⟨d, L, k, kd, sc, dp, r, fig, wide, rfl, _⟩ := h
    rfl
  obtain ⟨d, L, k, kd, sc, dp, r, fig, wide, rfl, hD, ⟨hk, hkd⟩, nkd, q⟩ := h
  refine ⟨_, (pss_cons (ps_setLc (i := 4) (own := [("_law_name", 5)]) rfl scl_leaf.nd rfl rfl (sw_true rfl rfl rfl (by decide +kernel)) (pi_list (pe_callB (call_sortedD rfl) (by rfl) T.msorted (by decide +kernel) (pa_cons (pe_ix ix_list (pv 1) pe_int (fun _ _ => rfl)) pa_nil))) (blkOk_by (N := Nl_leaf) (sc := defScope sl_leaf) (by decide +kernel)) (fun _ _ _ _ _ => (pg_name (i := 5) scl_leaf.nd rfl (Or.inl rfl))) (fun _ _ _ _ _ => (pts_one (PW.pt (pw_and (pt_cmpR op_lt (pe_op op_add (pe_ix (ix_tupK (K := K) rfl) (pe_dget (hu_of hr) (pe_ix (ix_listK (K := K) rfl) (pv 1) pe_int (fun _ _ => rfl)) (pv 5) (fun _ _ => rfl)) pe_int (fun _ _ => rfl)) (pv 3)) pe_int (nomark _)) (pw_and1 (pt_cmpR op_lt (pe_ix (ix_tupK (K := K) rfl) (pe_dget (hu_of hr) (pe_ix (ix_listK (K := K) rfl) (pv 1) pe_int (fun _ _ => rfl)) (pv 5) (fun _ _ => rfl)) pe_int (fun _ _ => rfl)) pe_int (nomark _))))))) (fun _ _ _ _ _ => (pv 5)))
 (pss_cons (ps_if (PW.pt (pw_and (pt_cmpR (op_neD hr.units) (pv 4) (pe_lst pa_nil) (nomark _)) (pw_and1 (pt_cmpR op_eq (pe_call Gl_take (hr.mono (by omega)) (by rfl) T.gl_take T.Fl_take.kp T.bl_take .nil pass0 (pa_cons (pv 0) (pa_cons pe_int pa_nil))) pe_int (nomark _)))))
  pss_never
  pss_nil)
 (pss_one (ps_ret (pe_tup (pa_cons pe_str (pa_cons (pe_ix ix_list (pe_lst (pa_cons (pe_call Gl_take (hr.mono (by omega)) (by rfl) T.gl_take T.Fl_take.kp T.bl_take .nil pass0 (pa_cons (pv 0) (pa_cons pe_int pa_nil))) (pa_cons (pe_call Gl_take (hr.mono (by omega)) (by rfl) T.gl_take T.Fl_take.kp T.bl_take .nil pass0 (pa_cons (pv 0) (pa_cons pe_int pa_nil))) pa_nil))) (pe_call Gl_take (hr.mono (by omega)) (by rfl) T.gl_take T.Fl_take.kp T.bl_take .nil pass0 (pa_cons (pv 0) (pa_cons pe_int pa_nil))) (fun _ _ => rfl)) pa_nil))))))), ?_⟩
  -- fit = []
  refine ⟨_, rfl, k, _, 1, _, rfl, rfl, SqL.of hk, rfl, kd, [], [], rfl, .inl hkd, rfl, by decide, fun ys p hperm _ np => ?_⟩
  have ey : ys = [] := List.Perm.eq_nil hperm
  subst ey
  refine ⟨p, rfl, ⟨_, SqL.of upd_same⟩, fun F nF => ?_⟩
  refine lc_list (xs := []) (fun i H' => H' = upd (upd H p (.lst [])) F (.lst [])) rfl (fun i H' _ e => by subst e; exact SqL.of (by rw [upd_ne (ne_of_none upd_same nF)]; exact upd_same)) (fun i x H' hx _ => by cases hx) (fun H' e => ?_)
  subst e
  have hD1 : Dr (upd (upd H p (.lst [])) F (.lst [])) d L := (hD.new np).new nF
  have G1 : Go (· = d) H (upd (upd H p (.lst [])) F (.lst [])) := ((Go.refl _ H).new np).new nF
  -- if fit != [] and ..
  refine ⟨_, rfl, Nat.zero_le _, fun e ne => ?_⟩
  have hF : (upd (upd (upd H p (.lst [])) F (.lst [])) e (.lst [])) F = some (.lst []) := by
    rw [upd_ne (ne_of_none upd_same ne)]
    exact upd_same
  refine ⟨.list [], .list [], .lst (SqL.of hF) .nil, .lst (SqL.of upd_same) .nil, by decide +kernel, by decide +kernel, ?_⟩
  have ee : PyData.eqv (.list []) (.list []) = true := by decide +kernel
  rw [ee]
  refine ⟨false, rfl, iteF ?_⟩
  have hD2 := hD1.new (o := .lst []) ne
  have G2 := G1.new (o := .lst []) ne
  refine iteF ?_
  -- return ('step', ..)
  refine ⟨_, rfl, d, L, 5, rfl, hD2, by decide, by decide, fun g3 H3 a3 b3 hD3 hB3 => ?_⟩
  have G3 := G2.trans (Go.but hD2 hB3 (M := (· = d)) rfl)
  refine ⟨_, rfl, d, L, 100, rfl, hD3, by decide, by decide, fun g4 H4 a4 b4 hD4 hB4 => ?_⟩
  have G4 := G3.trans (Go.but hD3 hB4 (M := (· = d)) rfl)
  refine ⟨(by show 2 ≤ sizeLine; decide), fun l nl => ?_⟩
  refine ⟨_, rfl, d, L, 2, rfl, hD4.new nl, by decide, by decide, fun g5 H5 a5 b5 hD5 hB5 => ?_⟩
  have G5 := (G4.new nl).trans (Go.but (hD4.new nl) hB5 (M := (· = d)) rfl)
  have hl : H5 l = some (.lst [.int g3, .int g4]) := by
    rw [hB5 l (hD4.neNew nl).1]
    exact upd_same
  obtain ⟨v, hv, hm⟩ := atI_lt (xs := [V.int g3, .int g4]) a5 b5
  obtain ⟨m, rfl, hm2⟩ := mem_ints2 hm
  refine ⟨l, _, g5, _, rfl, rfl, SqL.of hl, hv, (by show 2 ≤ sizeLine; decide), fun t nt => ?_⟩
  exact q _ (.step m) _ (rp_tup upd_same (rpl_cons rfl (rpl_cons rfl rpl_nil))) (fun _ _ => ⟨by omega, by omega⟩) rfl (hD5.new nt) (G5.new nt)
theorem ok_fresh (T : Tops w K mg) : FnOk P w K mg base CX0 3 T.fl_fresh T.dl_fresh ["_law_draw", "_law_taken"] spFresh := by
  have Gl_take : FnOk P w K mg base CX0 1 T.fl_take T.dl_take ["_law_draw", "_law_sides"] spTake := ok_take T
  have Gl_pick : FnOk P w K mg base CX0 2 T.fl_pick T.dl_pick ["_law_draw", "_law_row"] (spPick K) := ok_pick T
  have Gl_kept_words : FnOk P w K mg base CX0 1 T.fl_kept_words T.dl_kept_words [] spKept := ok_kept T
  refine T.Fl_fresh.ok (k := 2) scl_fresh (fun vs H Q E h => ?_) (fun cdv A outer s H vs Q E hr h => ?_)
  · obtain ⟨d, L, sc, ns, rfl, _⟩ := h
    rfl
  obtain ⟨d, L, sc, ns, rfl, hD, hsc, nsd, hlen, q⟩ := h
  refine ⟨_, (pss_cons (ps_set (i := 2) scl_fresh.nd rfl (Or.inl rfl) (pe_ix ix_list (pe_lst (pa_cons pe_int (pa_cons pe_int (pa_cons pe_int (pa_cons pe_int (pa_cons pe_int (pa_cons (pe_op op_add pe_int (pe_call Gl_take (hr.mono (by omega)) (by rfl) T.gl_take T.Fl_take.kp T.bl_take .nil pass0 (pa_cons (pv 0) (pa_cons pe_int pa_nil)))) pa_nil))))))) (pe_call Gl_take (hr.mono (by omega)) (by rfl) T.gl_take T.Fl_take.kp T.bl_take .nil pass0 (pa_cons (pv 0) (pa_cons pe_int pa_nil))) (fun _ _ => rfl)))
 (pss_cons (ps_set (i := 3) scl_fresh.nd rfl (Or.inl rfl) (pe_join pe_str (pe_lc (own := [("_law_k", 6)]) rfl scl_fresh.nd (pi_range1 (by rfl) T.mrange (pa_cons (pv 2) pa_nil)) (blkOk_by (N := Nl_fresh) (sc := defScope sl_fresh) (by decide +kernel)) (fun _ _ _ _ _ => (pg_name (i := 6) scl_fresh.nd rfl (Or.inl rfl))) (fun _ _ _ _ _ => pts_nil) (fun _ _ _ _ _ => (pe_call Gl_pick (hr.mono (by omega)) (by rfl) T.gl_pick T.Fl_pick.kp T.bl_pick .nil pass0 (pa_cons (pv 0) (pa_cons pe_str pa_nil)))))))
 (pss_cut (ps_if (PW.pt (pw_and (pt_cmpR op_notIn_seq (pv 3) (pv 1) (by rfl)) (pw_and1 (pt_cmpR op_notIn_seq (pv 3) (pe_call0 Gl_kept_words (hr.mono (by omega)) (by rfl) T.gl_kept_words T.Fl_kept_words.kp T.bl_kept_words .nil pass0) (by rfl)))))
  (pss_one (ps_ret (pv 3)))
  pss_nil)
 (pss_cons (ps_setLc (i := 4) (own := [("_law_sign", 5)]) rfl scl_fresh.nd rfl rfl (sw_true rfl rfl rfl (by decide +kernel)) (pi_str pe_str) (blkOk_by (N := Nl_fresh) (sc := defScope sl_fresh) (by decide +kernel)) (fun _ _ _ _ _ => (pg_name (i := 5) scl_fresh.nd rfl (Or.inl rfl))) (fun _ _ _ _ _ => pts_nil) (fun _ _ _ _ _ => (pe_op op_repS (pv 5) pe_int)))
 (pss_one (ps_ret (pe_ix ix_list (pe_lc (own := [("_law_one", 7)]) rfl scl_fresh.nd (pi_list (pv 4)) (blkOk_by (N := Nl_fresh) (sc := defScope sl_fresh) (by decide +kernel)) (fun _ _ _ _ _ => (pg_name (i := 7) scl_fresh.nd rfl (Or.inl rfl))) (fun _ _ _ _ _ => (pts_one (pt_cmpR (op_notIn_seqK (K := K) rfl) (pv 7) (pv 1) (by rfl)))) (fun _ _ _ _ _ => (pv 7))) pe_int (fun _ _ => rfl)))))))), ?_⟩
  -- size
  refine ⟨_, rfl, d, L, 8, rfl, hD, by decide, by decide, fun g1 H1 a1 b1 hD1 hB1 => ?_⟩
  have G1 : Go (· = d) H H1 := Go.but hD hB1 rfl
  refine ⟨1, g1, rfl, rfl, (by show 6 ≤ sizeLine; decide), fun l nl => ?_⟩
  refine ⟨_, rfl, d, L, 6, rfl, hD1.new nl, by decide, by decide, fun g2 H2 a2 b2 hD2 hB2 => ?_⟩
  have G2 : Go (· = d) H H2 := (G1.new nl).trans (Go.but (hD1.new nl) hB2 rfl)
  have hl : H2 l = some (.lst [.int 1, .int 1, .int 2, .int 3, .int 8, .int (1 + g1)]) := by
    rw [hB2 l (hD1.neNew nl).1]
    exact upd_same
  obtain ⟨v, hv, hm⟩ := atI_lt (xs := [V.int 1, .int 1, .int 2, .int 3, .int 8, .int (1 + g1)]) a2 b2
  obtain ⟨m, rfl, hm2⟩ := mem_ints (ns := [1, 1, 2, 3, 8, 1 + g1]) hm
  have m1 : 1 ≤ m ∧ m ≤ 8 := by
    simp only [List.mem_cons, List.not_mem_nil, or_false] at hm2
    omega
  refine ⟨l, _, g2, _, rfl, rfl, SqL.of hl, hv, ?_⟩
  -- name
  refine ⟨⟨_, rfl⟩, _, rfl, m, rfl, by omega, by omega, fun Dn nD => ?_⟩
  refine lc_range (lo := 0) (n := m.toNat) (fun i H' => Dr H' d L ∧ Go (· = d) H H' ∧ ∃ cs : List Nat, cs.length = i ∧ (∀ c ∈ cs, c ∈ abc) ∧ H' Dn = some (.lst ((cs.map fun c => S [c]).map V.str))) ⟨hD2.new nD, G2.new nD, [], rfl, (fun _ h => by cases h), upd_same⟩ (fun j H4 hj hP => ?_) (fun H4 hP => ?_)
  · obtain ⟨hD4, G4, cs, hcs, hab, hl4⟩ := hP
    refine ⟨rfl, yes_go ?_⟩
    refine ⟨_, rfl, d, L, _, 26, rfl, hD4, by decide, by decide, .inl ⟨_, rfl, by decide +kernel, fun c H5 hc hD5 hB5 => ?_⟩⟩
    have nDd := hD2.neNew nD
    have hl5 : H5 Dn = some (.lst ((cs.map fun c => S [c]).map V.str)) := by
      rw [hB5 Dn nDd.1]
      exact hl4
    have nH : H Dn = none := G2.free nD nDd.1
    refine ⟨_, hl5, ?_, hD5.upd nDd.1 nDd.2, (G4.trans (Go.but hD4 hB5 rfl)).own nH, cs ++ [c], ?_, ?_, ?_⟩
    · rw [List.length_map, List.length_map]
      exact szl (by omega)
    · rw [List.length_append, hcs]
      rfl
    · intro x hx
      rcases List.mem_append.mp hx with h1 | h1
      · exact hab x h1
      · rw [List.mem_singleton.mp h1]
        exact hc
    · rw [upd_same, List.map_append, List.map_append]
      rfl
  · obtain ⟨hD4, G4, cs, hcs, hab, hl4⟩ := hP
    refine ⟨_, Dn, cs.map fun c => S [c], rfl, rfl, .inl (SqL.of hl4), ?_, ?_⟩
    · rw [sum_ones, List.length_map]
      have : ("" : Str).length = 0 := by decide +kernel
      rw [this]
      omega
    rw [join_signs]
    have hsc4 := G4.at hsc nsd
    have hcl : 1 ≤ cs.length ∧ cs.length ≤ 8 := by omega
    have flat : ∀ zs : List Str, (zs.map V.str).all flatV = true := fun zs => by
      rw [List.all_eq_true]
      intro x hx
      obtain ⟨z, _, rfl⟩ := List.mem_map.mp hx
      rfl
    refine ⟨fun σ' H' => (∃ x2 x3 x4 x5 x6 x7, σ' = [some (.ref d), some (.ref sc), x2, x3, x4, x5, x6, x7]) ∧ Dr H' d L ∧ Go (· = d) H H', ?_, ?_⟩
    · refine ⟨_, rfl, _, rfl, sc, _, rfl, .inl (SqL.of hsc4), rfl, flat ns, _, rfl, ite2 (fun c1 => ?_) (fun c1 => ?_)⟩
      · refine ⟨_, rfl, rfl, fun p H5 np e5 => ?_⟩
        subst e5
        refine ⟨p, _, rfl, .inl (SqL.of upd_same), rfl, flat kept, _, rfl, ite2 (fun c2 => ?_) (fun c2 => ?_)⟩
        · have n1 : S cs ∉ ns := fun hn => by
            have c3 : (!inV (.str (S cs)) (ns.map V.str)) = true := c1
            rw [inV_str, decide_eq_true hn] at c3
            cases c3
          have n2 : S cs ∉ kept := fun hn => by
            have c3 : (!inV (.str (S cs)) (kept.map V.str)) = true := c2
            rw [inV_str, decide_eq_true hn] at c3
            cases c3
          exact ⟨_, rfl, q _ _ (name_of hcl.1 hcl.2 n2 hab) n1 (hD4.new np) (G4.new np)⟩
        · exact ⟨⟨_, _, _, _, _, _, rfl⟩, hD4.new np, G4.new np⟩
      · exact ⟨⟨_, _, _, _, _, _, rfl⟩, hD4, G4⟩
    · rintro σ' H5 ⟨⟨x2, x3, x4, x5, x6, x7, rfl⟩, hD5, G5⟩
      -- spare
      refine ⟨_, rfl, fun Sp nS => ?_⟩
      refine lc_str_val (fun c => .str (S [c, c])) 5 rfl (fun v => rfl) (by decide +kernel) nS (fun c _ H2 Q2 _ h => ⟨_, rfl, _, 2, rfl, rfl, by decide, by decide, by show 1 * 2 ≤ 100000; decide, h⟩) (fun H6 sm6 hl6 => ?_)
      have hD6 := hD5.same sm6
      have G6 : Go (· = d) H H6 := G5.trans (Go.same sm6)
      have hl6' : H6 Sp = some (.lst (spare.map V.str)) := by
        rw [hl6]
        unfold spare
        rw [List.map_map]
        rfl
      have nS6 := hD5.neNew nS
      -- the first that is not taken
      refine ⟨_, rfl, Sp, rfl, ⟨_, SqL.of hl6'⟩, fun R nR => ?_⟩
      refine lc_list (xs := spare.map V.str) (fun i H' => Same H6 H' ∧ H' R = some (.lst (((spare.take i).filter fun x => !decide (x ∈ ns)).map V.str))) ⟨same_new nR, upd_same⟩ (fun i H' _ hP => SqL.of (hP.1 _ _ hl6')) (fun i x H' hx hP => ?_) (fun H' hP => ?_)
      · obtain ⟨sm, hl7⟩ := hP
        have hx2 : ∃ z, spare[i]? = some z ∧ x = .str z := by
          rw [List.getElem?_map] at hx
          cases hz : spare[i]? with
          | none => rw [hz] at hx; cases hx
          | some z => rw [hz] at hx; exact ⟨z, rfl, (Option.some.inj hx).symm⟩
        obtain ⟨z, hz, rfl⟩ := hx2
        refine ⟨rfl, ?_⟩
        refine ⟨_, rfl, _, rfl, sc, _, rfl, .inl (SqL.of (sm _ _ (G6.at hsc nsd))), rfl, flat ns, _, rfl, ite2 (fun c2 => ?_) (fun c2 => ?_)⟩
        · refine ⟨_, rfl, _, hl7, ?_, Same.upd_new sm nR, ?_⟩
          · rw [List.length_map]
            have h1 : ((spare.take i).filter fun x => !decide (x ∈ ns)).length ≤ (spare.take i).length := List.length_filter_le _ _
            have h2 : (spare.take i).length ≤ spare.length := by rw [List.length_take]; omega
            have h3 : spare.length = 26 := by decide +kernel
            exact szl (by omega)
          · have c3 : (!inV (.str z) (ns.map V.str)) = true := c2
            rw [inV_str] at c3
            rw [upd_same, List.take_add_one, hz, List.filter_append, List.map_append]
            have e : (Option.toList (some z)).filter (fun x => !decide (x ∈ ns)) = [z] := by
              show List.filter (fun x => !decide (x ∈ ns)) [z] = [z]
              rw [List.filter_cons, if_pos c3]
              rfl
            rw [e]
            rfl
        · have c3 : (!inV (.str z) (ns.map V.str)) = false := Bool.eq_false_iff.mpr c2
          rw [inV_str] at c3
          refine ⟨sm, ?_⟩
          rw [hl7, List.take_add_one, hz, List.filter_append]
          have e : (Option.toList (some z)).filter (fun x => !decide (x ∈ ns)) = [] := by
            show List.filter (fun x => !decide (x ∈ ns)) [z] = []
            rw [List.filter_cons, if_neg (by rw [c3]; exact Bool.false_ne_true)]
            rfl
          rw [e, List.append_nil]
      · obtain ⟨sm, hl7⟩ := hP
        rw [List.length_map, List.take_length] at hl7
        have hf : ∃ z r, (spare.filter fun x => !decide (x ∈ ns)) = z :: r ∧ z ∈ spare ∧ z ∉ ns := by
          cases hfl : spare.filter fun x => !decide (x ∈ ns) with
          | nil =>
            obtain ⟨x, hx, hn⟩ := spare_free hlen
            have : x ∈ spare.filter fun x => !decide (x ∈ ns) := List.mem_filter.mpr ⟨hx, by simp [hn]⟩
            rw [hfl] at this
            cases this
          | cons z r =>
            have : z ∈ spare.filter fun x => !decide (x ∈ ns) := by rw [hfl]; exact List.mem_cons_self
            obtain ⟨h1, h2⟩ := List.mem_filter.mp this
            exact ⟨z, r, rfl, h1, by simpa using h2⟩
        obtain ⟨z, r, he, hz1, hz2⟩ := hf
        rw [he] at hl7
        refine ⟨R, _, 0, .str z, rfl, rfl, SqL.of hl7, atI_nat (j := 0) rfl, ?_⟩
        exact q z H' (spare_name hz1) hz2 (hD6.same sm) (G6.trans (Go.same sm))
/-- what drawn_body promises to a thing with n brackets left -/
def prevB : Nat → Sp
  | 0 => fun _ _ _ _ => False
  | m + 1 => spDrawBody m
theorem ok_drawn_thing (T : Tops w K mg) (n : Nat) (Gl_drawn_body : FnOk P w K mg base CX0 (4 + 2 * n) T.fl_drawn_body T.dl_drawn_body ["_law_draw", "_law_kit", "_law_scope", "_law_deep"] (prevB n)) :
    FnOk P w K mg base CX0 (5 + 2 * n) T.fl_drawn_thing T.dl_drawn_thing ["_law_draw", "_law_kit", "_law_scope", "_law_deep"] (spDrawThing n) := by
  have Gl_take : FnOk P w K mg base CX0 1 T.fl_take T.dl_take ["_law_draw", "_law_sides"] spTake := ok_take T
  have Gl_leaf : FnOk P w K mg base CX0 4 T.fl_leaf T.dl_leaf ["_law_draw", "_law_kit", "_law_scope", "_law_deep"] spLeaf := ok_leaf T
  have Gl_some_end : FnOk P w K mg base CX0 3 T.fl_some_end T.dl_some_end ["_law_draw", "_law_scope", "_law_wide"] spSomeEnd := ok_some_end T
  have Gl_fresh : FnOk P w K mg base CX0 3 T.fl_fresh T.dl_fresh ["_law_draw", "_law_taken"] spFresh := ok_fresh T
  have elev : 5 + 2 * n = (4 + 2 * n) + 1 := by omega
  rw [elev]
  refine T.Fl_drawn_thing.ok (k := 4 + 2 * n) scl_drawn_thing (fun vs H Q E h => ?_) (fun cdv A outer s H vs Q E hr h => ?_)
  · obtain ⟨d, L, k, kd, sc, r, fig, wide, ns, rfl, _⟩ := h
    rfl
  obtain ⟨d, L, k, kd, sc, r, fig, wide, ns, rfl, hD, ⟨hk, hkd⟩, nkd, nkL, r1, r2, hsc, nsd, nsk, hSc, hne, hlen, q⟩ := h
  refine ⟨_, (pss_cons (ps_asg (pe_op op_sub (pe_ix ix_list (pv 1) pe_int (fun _ _ => rfl)) pe_int) (pg_sub (pv 1) pe_int set_list))
 (pss_cons (ps_set (i := 4) scl_drawn_thing.nd rfl (Or.inl rfl) (pe_call Gl_take (hr.mono (by omega)) (by rfl) T.gl_take T.Fl_take.kp T.bl_take .nil pass0 (pa_cons (pv 0) (pa_cons pe_int pa_nil))))
 (pss_cons (ps_if (PW.pt (pw_or (pt_cmpR op_lt (pe_ix ix_list (pv 1) pe_int (fun _ _ => rfl)) pe_int (nomark _)) (pw_or (pt_cmpR op_gt (pv 3) pe_int (nomark _)) (pw_or1 (pt_cmpR op_lt (pv 4) pe_int (nomark _))))))
  (pss_one (ps_ret (pe_call Gl_leaf (hr.mono (by omega)) (by rfl) T.gl_leaf T.Fl_leaf.kp T.bl_leaf .nil pass0 (pa_cons (pv 0) (pa_cons (pv 1) (pa_cons (pv 2) (pa_cons (pv 3) pa_nil)))))))
  pss_nil)
 (pss_cut (ps_if (PW.pt (pw_and (pt_cmpR op_eq (pv 4) pe_int (nomark _)) (pw_and1 (pt_val (pe_ix ix_list (pv 1) pe_int (fun _ _ => rfl))))))
  (pss_one (ps_ret (pe_tup (pa_cons pe_str (pa_cons (pe_call Gl_drawn_body (hr.mono (by omega)) (by rfl) T.gl_drawn_body T.Fl_drawn_body.kp T.bl_drawn_body .nil pass0 (pa_cons (pv 0) (pa_cons (pv 1) (pa_cons (pv 2) (pa_cons (pe_op op_add (pv 3) pe_int) pa_nil))))) pa_nil)))))
  pss_nil)
 (pss_cons (ps_par (i := 7) (j := 8) (by rfl) scl_drawn_thing.nd rfl rfl (by decide) rfl rfl (pa_cons (pe_call Gl_some_end (hr.mono (by omega)) (by rfl) T.gl_some_end T.Fl_some_end.kp T.bl_some_end .nil pass0 (pa_cons (pv 0) (pa_cons (pv 2) (pa_cons (pe_ix ix_list (pv 1) pe_int (fun _ _ => rfl)) pa_nil)))) (pa_cons (pe_call Gl_some_end (hr.mono (by omega)) (by rfl) T.gl_some_end T.Fl_some_end.kp T.bl_some_end .nil pass0 (pa_cons (pv 0) (pa_cons (pv 2) (pa_cons (pe_ix ix_list (pv 1) pe_int (fun _ _ => rfl)) pa_nil)))) pa_nil)) (by rfl))
 (pss_cons (ps_if (pt_cmpR op_lt (pv 4) pe_int (nomark _))
  (pss_cons (ps_set (i := 9) scl_drawn_thing.nd rfl (Or.inl rfl) (pe_call Gl_fresh (hr.mono (by omega)) (by rfl) T.gl_fresh T.Fl_fresh.kp T.bl_fresh .nil pass0 (pa_cons (pv 0) (pa_cons (pv 2) pa_nil))))
 (pss_one (ps_ret (pe_tup (pa_cons pe_str (pa_cons (pv 9) (pa_cons (pv 7) (pa_cons (pv 8) (pa_cons (pe_call Gl_drawn_body (hr.mono (by omega)) (by rfl) T.gl_drawn_body T.Fl_drawn_body.kp T.bl_drawn_body .nil pass0 (pa_cons (pv 0) (pa_cons (pv 1) (pa_cons (pe_op op_cat (pv 2) (pe_lst (pa_cons (pv 9) pa_nil))) (pa_cons (pe_op op_add (pv 3) pe_int) pa_nil))))) pa_nil)))))))))
  pss_nil)
 (pss_cons (ps_asg (pe_op op_sub (pe_ix ix_list (pv 1) pe_int (fun _ _ => rfl)) pe_int) (pg_sub (pv 1) pe_int set_list))
 (pss_cons (ps_set (i := 5) scl_drawn_thing.nd rfl (Or.inl rfl) (pe_call Gl_drawn_body (hr.mono (by omega)) (by rfl) T.gl_drawn_body T.Fl_drawn_body.kp T.bl_drawn_body .nil pass0 (pa_cons (pv 0) (pa_cons (pv 1) (pa_cons (pv 2) (pa_cons (pe_op op_add (pv 3) pe_int) pa_nil))))))
 (pss_cons (ps_asg (pe_op op_add (pe_ix ix_list (pv 1) pe_int (fun _ _ => rfl)) pe_int) (pg_sub (pv 1) pe_int set_list))
 (pss_cut (ps_set (i := 6) scl_drawn_thing.nd rfl (Or.inl rfl) (pe_ifExp (pt_cmpR op_eq (pe_call Gl_take (hr.mono (by omega)) (by rfl) T.gl_take T.Fl_take.kp T.bl_take .nil pass0 (pa_cons (pv 0) (pa_cons pe_int pa_nil))) pe_int (nomark _)) (pe_tup pa_nil) (pe_call Gl_drawn_body (hr.mono (by omega)) (by rfl) T.gl_drawn_body T.Fl_drawn_body.kp T.bl_drawn_body .nil pass0 (pa_cons (pv 0) (pa_cons (pv 1) (pa_cons (pv 2) (pa_cons (pe_op op_add (pv 3) pe_int) pa_nil)))))))
 (pss_one (ps_ret (pe_tup (pa_cons pe_str (pa_cons (pv 7) (pa_cons (pv 8) (pa_cons (pv 5) (pa_cons (pv 6) pa_nil)))))))))))))))))), ?_⟩
  have ndk : kd ≠ k := ne_of hkd hk (fun z => by cases z)
  have ndd : kd ≠ d := by
    obtain ⟨zs, i0, i1, i2, z1, _⟩ := hD
    exact ne_of hkd z1 (fun z => by cases z)
  have nMsc : ¬ M2 d k sc := fun z => z.elim nsd nsk
  have nMkd : ¬ M2 d k kd := fun z => z.elim ndd ndk
  -- kit[0] = kit[0] - 1
  refine ⟨_, rfl, k, _, 0, _, rfl, rfl, SqL.of hk, rfl, (r : Int), 1, rfl, rfl, _, rfl, k, _, 0, 0, rfl, rfl, hk, rfl, ?_⟩
  have er : (r : Int) - 1 = ((r - 1 : Nat) : Int) := by omega
  have hk1 : (upd H k (.lst [.int ((r : Int) - 1), .ref kd, .bl fig, .bl wide])) k = some (.lst [.int ((r - 1 : Nat) : Int), .ref kd, .bl fig, .bl wide]) := by rw [upd_same, er]
  have hD1 : Dr (upd H k (.lst [.int ((r : Int) - 1), .ref kd, .bl fig, .bl wide])) d L := hD.upd nkd nkL
  have G1 : Go (M2 d k) H (upd H k (.lst [.int ((r : Int) - 1), .ref kd, .bl fig, .bl wide])) := (Go.refl _ H).set (.inr rfl) hk
  -- fork
  refine ⟨_, rfl, d, L, 9, rfl, hD1, by decide, by decide, fun f H2 f0 f1 hD2 hB2 => ?_⟩
  have G2 : Go (M2 d k) H H2 := G1.trans (Go.but hD1 hB2 (.inl rfl))
  have hk2 : H2 k = some (.lst [.int ((r - 1 : Nat) : Int), .ref kd, .bl fig, .bl wide]) := by
    rw [hB2 k nkd]
    exact hk1
  have hkd2 : H2 kd = some (.dK []) := G2.at hkd nMkd
  have hsc2 : H2 sc = some (.lst (ns.map V.str)) := G2.at hsc nMsc
  have hleaf : spLeaf [.ref d, .ref k, .ref sc, .int (4 - n)] H2 Q E0 := ⟨d, L, k, kd, sc, _, _, fig, wide, rfl, hD2, ⟨hk2, hkd2⟩, nkd, fun v t H3 hR hT hc hD3 G3 =>
    q v 1 (r - 1) H3 ⟨t, hR, hT ns n, hc⟩ (by omega) hD3 ⟨G3.at hk2 nkd, G3.at hkd2 ndd⟩ (G2.trans (G3.mono fun b e => .inl e))⟩
  refine ⟨_, rfl, k, _, 0, _, rfl, rfl, SqL.of hk2, rfl, _, 2, rfl, rfl, _, rfl, ite2 (fun c1 => ?_) (fun c1 => ?_)⟩
  · exact iteT ⟨_, rfl, _, rfl, _, rfl, _, rfl, hleaf⟩
  refine ⟨_, rfl, _, 3, rfl, rfl, _, rfl, ite2 (fun c2 => ?_) (fun c2 => ?_)⟩
  · exact iteT ⟨_, rfl, _, rfl, _, rfl, _, rfl, hleaf⟩
  refine ⟨_, rfl, _, 2, rfl, rfl, _, rfl, ite2 (fun c3 => ?_) (fun c3 => ?_)⟩
  · exact ⟨_, rfl, _, rfl, _, rfl, _, rfl, hleaf⟩
  have d1 : ¬ (((r - 1 : Nat) : Int) < 2) := fun z => c1 (decide_eq_true z)
  have d2 : ¬ ((3 : Int) < 4 - (n : Int)) := fun z => c2 (decide_eq_true z)
  cases n with
  | zero => exact absurd (by decide) d2
  | succ m =>
  have edeep : (4 - ((m + 1 : Nat) : Int) + 1) = 4 - (m : Int) := by omega
  have eargs : ∀ c : Addr, ([.ref d, .ref k, .ref c, .int (4 - ((m + 1 : Nat) : Int) + 1)] : List V) = [.ref d, .ref k, .ref c, .int (4 - (m : Int))] := fun c => by rw [edeep]
  -- double
  refine ⟨fun σ' H' => σ' = [some (.ref d), some (.ref k), some (.ref sc), some (.int (4 - ((m + 1 : Nat) : Int))), some (.int f), none, none, none, none, none] ∧ H' = H2, ?_, ?_⟩
  · refine ⟨_, rfl, rfl, _, rfl, ite2 (fun c4 => ?_) (fun c4 => ?_)⟩
    · refine ⟨_, rfl, k, _, 2, _, rfl, rfl, SqL.of hk2, rfl, fig, rfl, ite2 (fun c5 => ?_) (fun c5 => ?_)⟩
      · refine ⟨_, rfl, _, rfl, _, rfl, _, rfl, _, 1, rfl, rfl, d, L, k, kd, sc, r - 1, fig, wide, ns, eargs sc, hD2, ⟨hk2, hkd2⟩, nkd, nkL, by omega, by omega, hsc2, nsd, nsk, hSc, hne, by omega, fun v c r' H3 hp e hD3 hK3 G3 => ?_⟩
        obtain ⟨ts, hts, hR, hT, hc⟩ := hp
        refine ⟨(by show 2 ≤ sizeLine; decide), fun p np => ?_⟩
        exact q _ (1 + c) r' _ ⟨.twice ts, rp_tup upd_same (rpl_cons rfl (rpl_cons (hR.to (Imm.same (same_new np))) rpl_nil)), ⟨hts, m, rfl, hT⟩, by rw [← hc]; rfl⟩ (by omega) (hD3.new np)
          ⟨same_new np _ _ hK3.1, same_new np _ _ hK3.2⟩ ((G2.trans G3).new np)
      · exact ⟨rfl, rfl⟩
    · exact ⟨rfl, rfl⟩
  rintro σ' H' ⟨rfl, rfl⟩
  -- one, other
  refine ⟨_, rfl, _, rfl, _, rfl, k, _, 3, _, rfl, rfl, SqL.of hk2, rfl, d, L, sc, ns, wide, rfl, hD2, hsc2, nsd, hne, by omega, fun v1 e1 H3 hR1 hE1 hD3 G23 => ?_⟩
  have G3 : Go (M2 d k) H H3 := G2.trans (G23.mono fun b e => .inl e)
  have hk3 := G23.at hk2 nkd
  have hkd3 := G23.at hkd2 ndd
  have hsc3 := G23.at hsc2 nsd
  refine ⟨_, rfl, _, rfl, _, rfl, k, _, 3, _, rfl, rfl, SqL.of hk3, rfl, d, L, sc, ns, wide, rfl, hD3, hsc3, nsd, hne, by omega, fun v2 e2 H4 hR2 hE2 hD4 G34 => ?_⟩
  have G4 : Go (M2 d k) H H4 := G3.trans (G34.mono fun b e => .inl e)
  have hk4 := G34.at hk3 nkd
  have hkd4 := G34.at hkd3 ndd
  have hsc4 := G34.at hsc3 nsd
  have hR1' : Rp H4 v1 (encE e1) := hR1.to G34.im
  refine ⟨_, _, rfl, ?_⟩
  refine ⟨_, rfl, _, 6, rfl, rfl, _, rfl, ite2 (fun c6 => ?_) (fun c6 => ?_)⟩
  · -- for
    refine ⟨_, rfl, _, rfl, d, L, sc, ns, rfl, hD4, hsc4, nsd, by omega, fun x H5 hx hxn hD5 G45 => ?_⟩
    have G5 : Go (M2 d k) H H5 := G4.trans (G45.mono fun b e => .inl e)
    have hk5 := G45.at hk4 nkd
    have hkd5 := G45.at hkd4 ndd
    have hsc5 := G45.at hsc4 nsd
    refine ⟨_, rfl, _, rfl, _, rfl, _, rfl, _, rfl, _, rfl, _, rfl, (by show 1 ≤ sizeLine; decide), fun l nl => ?_⟩
    have s5 : Same H5 (upd H5 l (.lst [.str x])) := same_new nl
    refine ⟨sc, l, _, _, rfl, rfl, s5 _ _ hsc5, upd_same, ?_, fun s2 ns2 => ?_⟩
    · rw [List.length_map]
      show ns.length + 1 ≤ sizeLine
      exact sz (by omega)
    have s6 : Same H5 (upd (upd H5 l (.lst [.str x])) s2 (.lst (ns.map V.str ++ [.str x]))) := s5.trans (same_new ns2)
    have hD6 := (hD5.new (o := .lst [.str x]) nl).new (o := .lst (ns.map V.str ++ [.str x])) ns2
    have nn := (hD5.new (o := .lst [.str x]) nl).neNew ns2
    have n2k : s2 ≠ k := (ne_of_none (s5 _ _ hk5) ns2).symm
    have hs2 : (upd (upd H5 l (.lst [.str x])) s2 (.lst (ns.map V.str ++ [.str x]))) s2 = some (.lst ((ns ++ [x]).map V.str)) := by
      rw [upd_same, List.map_append]
      rfl
    refine ⟨_, rfl, _, 1, rfl, rfl, d, L, k, kd, s2, r - 1, fig, wide, ns ++ [x], eargs s2, hD6, ⟨s6 _ _ hk5, s6 _ _ hkd5⟩, nkd, nkL, by omega, by omega, hs2, nn.1, n2k, scOk_snoc hSc hx, by simp, by rw [List.length_append]; show ns.length + 1 + m ≤ 20; omega, fun v c r' H7 hp e hD7 hK7 G67 => ?_⟩
    obtain ⟨ts, hts, hR, hT, hc⟩ := hp
    have i57 : Imm H5 H7 := (Imm.same s6).trans G67.im
    refine ⟨(by show 5 ≤ sizeLine; decide), fun p np => ?_⟩
    have i7 : Imm H7 (upd H7 p (.tup [.str "for", .str x, v1, v2, v])) := Imm.same (same_new np)
    exact q _ (1 + c) r' _ ⟨.loop x e1 e2 ts, rp_tup upd_same (rpl_cons rfl (rpl_cons rfl (rpl_cons (hR1'.to ((G45.im.trans i57).trans i7)) (rpl_cons (hR2.to ((G45.im.trans i57).trans i7)) (rpl_cons (hR.to i7) rpl_nil))))), ⟨hx, hxn, hE1, hE2, hts, m, rfl, hT⟩, by rw [← hc]; rfl⟩ (by omega) (hD7.new np)
      ⟨same_new np _ _ hK7.1, same_new np _ _ hK7.2⟩ (((G5.trans (Go.same s6)).trans G67).new np)
  · -- if
    refine ⟨_, rfl, k, _, 0, _, rfl, rfl, SqL.of hk4, rfl, _, 1, rfl, rfl, _, rfl, k, _, 0, 0, rfl, rfl, hk4, rfl, ?_⟩
    have er2 : ((r - 1 : Nat) : Int) - 1 = ((r - 2 : Nat) : Int) := by omega
    have hD5 : Dr (upd H4 k (.lst [.int (((r - 1 : Nat) : Int) - 1), .ref kd, .bl fig, .bl wide])) d L := hD4.upd nkd nkL
    have G5 : Go (M2 d k) H (upd H4 k (.lst [.int (((r - 1 : Nat) : Int) - 1), .ref kd, .bl fig, .bl wide])) := G4.set (.inr rfl) hk4
    have i45 : Imm H4 (upd H4 k (.lst [.int (((r - 1 : Nat) : Int) - 1), .ref kd, .bl fig, .bl wide])) := (Imm.refl H4).upd fun xs e => by rw [hk4] at e; cases e
    have hkd5 : (upd H4 k (.lst [.int (((r - 1 : Nat) : Int) - 1), .ref kd, .bl fig, .bl wide])) kd = some (.dK []) := by
      rw [upd_ne ndk]
      exact hkd4
    have hsc5 : (upd H4 k (.lst [.int (((r - 1 : Nat) : Int) - 1), .ref kd, .bl fig, .bl wide])) sc = some (.lst (ns.map V.str)) := by
      rw [upd_ne nsk]
      exact hsc4
    have hk5 : (upd H4 k (.lst [.int (((r - 1 : Nat) : Int) - 1), .ref kd, .bl fig, .bl wide])) k = some (.lst [.int ((r - 2 : Nat) : Int), .ref kd, .bl fig, .bl wide]) := by rw [upd_same, er2]
    refine ⟨_, rfl, _, rfl, _, rfl, _, rfl, _, 1, rfl, rfl, d, L, k, kd, sc, r - 2, fig, wide, ns, eargs sc, hD5, ⟨hk5, hkd5⟩, nkd, nkL, by omega, by omega, hsc5, nsd, nsk, hSc, hne, by omega, fun vb cb rb H6 hp eb hD6 hK6 G56 => ?_⟩
    obtain ⟨bs, hbs, hRb, hTb, hcb⟩ := hp
    have G6 := G5.trans G56
    have i46 : Imm H4 H6 := i45.trans G56.im
    refine ⟨_, rfl, k, _, 0, _, rfl, rfl, SqL.of hK6.1, rfl, _, 1, rfl, rfl, _, rfl, k, _, 0, 0, rfl, rfl, hK6.1, rfl, ?_⟩
    have er3 : ((rb : Nat) : Int) + 1 = ((rb + 1 : Nat) : Int) := by omega
    have hD7 : Dr (upd H6 k (.lst [.int (((rb : Nat) : Int) + 1), .ref kd, .bl fig, .bl wide])) d L := hD6.upd nkd nkL
    have G7 : Go (M2 d k) H (upd H6 k (.lst [.int (((rb : Nat) : Int) + 1), .ref kd, .bl fig, .bl wide])) := G6.set (.inr rfl) hK6.1
    have i67 : Imm H6 (upd H6 k (.lst [.int (((rb : Nat) : Int) + 1), .ref kd, .bl fig, .bl wide])) := (Imm.refl H6).upd fun xs e => by rw [hK6.1] at e; cases e
    have hkd7 : (upd H6 k (.lst [.int (((rb : Nat) : Int) + 1), .ref kd, .bl fig, .bl wide])) kd = some (.dK []) := by
      rw [upd_ne ndk]
      exact hK6.2
    have hsc7 : (upd H6 k (.lst [.int (((rb : Nat) : Int) + 1), .ref kd, .bl fig, .bl wide])) sc = some (.lst (ns.map V.str)) := by
      rw [upd_ne nsk]
      exact G56.at hsc5 nMsc
    have i47 := i46.trans i67
    have hk7 : (upd H6 k (.lst [.int (((rb : Nat) : Int) + 1), .ref kd, .bl fig, .bl wide])) k = some (.lst [.int ((rb + 1 : Nat) : Int), .ref kd, .bl fig, .bl wide]) := by rw [upd_same, er3]
    refine ⟨fun σ' H' => ∃ vy ys ry, σ' = [some (.ref d), some (.ref k), some (.ref sc), some (.int (4 - ((m + 1 : Nat) : Int))), some (.int f), some vb, some vy, some v1, some v2, none] ∧ Rp H' vy (.tup (encs ys)) ∧ TsOk C0 False ns m ys ∧ cntB ys + ry = rb + 1 ∧
      Dr H' d L ∧ Kt H' k kd ry fig wide ∧ Go (M2 d k) H H' ∧ Imm H4 H' ∧ Imm H6 H', ?_, ?_⟩
    · refine ⟨_, rfl, d, L, 2, rfl, hD7, by decide, by decide, fun g H8 a8 b8 hD8 hB8 => ?_⟩
      have G78 : Go (· = d) (upd H6 k (.lst [.int (((rb : Nat) : Int) + 1), .ref kd, .bl fig, .bl wide])) H8 := Go.but hD7 hB8 rfl
      have G8 := G7.trans (G78.mono fun b e => .inl e)
      have hk8 := G78.at hk7 nkd
      have hkd8 := G78.at hkd7 ndd
      have hsc8 := G78.at hsc7 nsd
      refine ⟨rfl, _, rfl, ite2 (fun c7 => ?_) (fun c7 => ?_)⟩
      · refine ⟨Nat.zero_le _, fun p np => ?_⟩
        have s9 : Same H8 (upd H8 p (.tup [])) := same_new np
        exact ⟨.ref p, [], rb + 1, rfl, rp_tup upd_same rpl_nil, trivial, Nat.zero_add _, hD8.new np, ⟨s9 _ _ hk8, s9 _ _ hkd8⟩, G8.new np, (i47.trans G78.im).trans (Imm.same s9), (i67.trans G78.im).trans (Imm.same s9)⟩
      · refine ⟨_, rfl, _, rfl, _, rfl, _, rfl, _, 1, rfl, rfl, d, L, k, kd, sc, rb + 1, fig, wide, ns, eargs sc, hD8, ⟨hk8, hkd8⟩, nkd, nkL, by omega, by omega, hsc8, nsd, nsk, hSc, hne, by omega, fun vy cy ry H9 hp ey hD9 hK9 G89 => ?_⟩
        obtain ⟨ys, hys, hRy, hTy, hcy⟩ := hp
        exact ⟨vy, ys, ry, rfl, hRy, hTy, by omega, hD9, hK9, G8.trans G89, (i47.trans G78.im).trans G89.im, (i67.trans G78.im).trans G89.im⟩
    · rintro σ' H' ⟨vy, ys, ry, rfl, hRy, hTy, ecy, hD9, hK9, G9, i49, i69⟩
      refine ⟨_, rfl, _, rfl, _, rfl, _, rfl, (by show 5 ≤ sizeLine; decide), fun p np => ?_⟩
      have ip : Imm H' (upd H' p (.tup [.str "if", v1, v2, vb, vy])) := Imm.same (same_new np)
      exact q _ (1 + cntB bs + cntB ys) ry _ ⟨.test e1 e2 bs ys, rp_tup upd_same (rpl_cons rfl (rpl_cons (hR1'.to (i49.trans ip)) (rpl_cons (hR2.to (i49.trans ip)) (rpl_cons (hRb.to (i69.trans ip)) (rpl_cons (hRy.to ip) rpl_nil))))), ⟨hE1, hE2, hbs, m, rfl, hTb, hTy⟩, rfl⟩ (by omega) (hD9.new np)
        ⟨same_new np _ _ hK9.1, same_new np _ _ hK9.2⟩ (G9.new np)
theorem ok_drawn_body (T : Tops w K mg) (n : Nat) (Gl_drawn_thing : FnOk P w K mg base CX0 (5 + 2 * n) T.fl_drawn_thing T.dl_drawn_thing ["_law_draw", "_law_kit", "_law_scope", "_law_deep"] (spDrawThing n)) :
    FnOk P w K mg base CX0 (6 + 2 * n) T.fl_drawn_body T.dl_drawn_body ["_law_draw", "_law_kit", "_law_scope", "_law_deep"] (spDrawBody n) := by
  have Gl_take : FnOk P w K mg base CX0 1 T.fl_take T.dl_take ["_law_draw", "_law_sides"] spTake := ok_take T
  have elev : 6 + 2 * n = (5 + 2 * n) + 1 := by omega
  rw [elev]
  refine T.Fl_drawn_body.ok (k := 5 + 2 * n) scl_drawn_body (fun vs H Q E h => ?_) (fun cdv A outer s H vs Q E hr h => ?_)
  · obtain ⟨d, L, k, kd, sc, r, fig, wide, ns, rfl, _⟩ := h
    rfl
  obtain ⟨d, L, k, kd, sc, r, fig, wide, ns, rfl, hD, ⟨hk, hkd⟩, nkd, nkL, r1, r2, hsc, nsd, nsk, hSc, hne, hlen, q⟩ := h
  refine ⟨_, (pss_cons (ps_set (i := 4) scl_drawn_body.nd rfl (Or.inl rfl) (pe_lst (pa_cons (pe_call Gl_drawn_thing (hr.mono (by omega)) (by rfl) T.gl_drawn_thing T.Fl_drawn_thing.kp T.bl_drawn_thing .nil pass0 (pa_cons (pv 0) (pa_cons (pv 1) (pa_cons (pv 2) (pa_cons (pv 3) pa_nil))))) pa_nil)))
 (pss_cons (ps_for PassesOwn.never rfl (pi_range1 (by rfl) T.mrange (pa_cons (pe_call Gl_take (hr.mono (by omega)) (by rfl) T.gl_take T.Fl_take.kp T.bl_take .nil pass0 (pa_cons (pv 0) (pa_cons pe_int pa_nil))) pa_nil)) (pg_name (i := 5) scl_drawn_body.nd rfl (Or.inl rfl))
  (pss_one (ps_if (pt_cmpR op_gt (pe_ix ix_list (pv 1) pe_int (fun _ _ => rfl)) pe_int (nomark _))
  (pss_one (ps_expr (pe_bm PySem.F.plainAttrs_list PySem.F.slot_list_append PySem.F.type_list_append mt_append (pv 4) (pa_cons (pe_call Gl_drawn_thing (hr.mono (by omega)) (by rfl) T.gl_drawn_thing T.Fl_drawn_thing.kp T.bl_drawn_thing .nil pass0 (pa_cons (pv 0) (pa_cons (pv 1) (pa_cons (pv 2) (pa_cons (pv 3) pa_nil))))) pa_nil))))
  pss_nil)))
 (pss_one (ps_ret (pe_callTy call_tuple_of (by rfl) T.mtuple (by decide +kernel) (pa_cons (pv 4) pa_nil)))))), ?_⟩
  have nMsc : ¬ M2 d k sc := fun z => z.elim nsd nsk
  refine ⟨_, rfl, _, rfl, _, rfl, _, rfl, d, L, k, kd, sc, r, fig, wide, ns, rfl, hD, ⟨hk, hkd⟩, nkd, nkL, r1, r2, hsc, nsd, nsk, hSc, hne, hlen, fun v1 c1 ra H1 hp e1 hD1 hK1 G1 => ?_⟩
  obtain ⟨t1, hR1, hT1, hc1⟩ := hp
  refine ⟨(by show 1 ≤ sizeLine; decide), fun F nF => ?_⟩
  have nFH : H F = none := by
    cases hF : H F with
    | none => rfl
    | some o =>
      by_cases hm : M2 d k F
      · rcases hm with rfl | rfl
        · obtain ⟨u, hu⟩ := hD1.some
          rw [hu] at nF
          cases nF
        · rw [hK1.1] at nF
          cases nF
      · rw [G1.sx F o hm hF] at nF
        cases nF
  have nFd := hD1.neNew nF
  have nFk : F ≠ k := (ne_of_none hK1.1 nF).symm
  have hD2 := hD1.new (o := .lst [v1]) nF
  have G2 := G1.new (o := .lst [v1]) nF
  have s2 : Same H1 (upd H1 F (.lst [v1])) := same_new nF
  refine ⟨_, rfl, d, L, 3, rfl, hD2, by decide, by decide, fun g H3 a3 b3 hD3 hB3 => ?_⟩
  have G23 : Go (· = d) (upd H1 F (.lst [v1])) H3 := Go.but hD2 hB3 rfl
  have G3 := G2.trans (G23.mono fun b e => .inl e)
  refine ⟨g, rfl, by omega, by omega, ?_⟩
  have hF3 := G23.at (upd_same : (upd H1 F (.lst [v1])) F = _) nFd.1
  have hk3 := G23.at (s2 _ _ hK1.1) nkd
  have ndd : kd ≠ d := by
    obtain ⟨zs, i0, i1, i2, z1, _⟩ := hD
    exact ne_of hkd z1 (fun z => by cases z)
  have ndk : kd ≠ k := ne_of hkd hk (fun z => by cases z)
  have hkd3 := G23.at (s2 _ _ hK1.2) ndd
  have hR3 : Rp H3 v1 (enc t1) := (hR1.to (Imm.same s2)).to G23.im
  refine for_range (lo := 0) (n := g.toNat) (fun i σ H' => (∃ x5, σ = [some (.ref d), some (.ref k), some (.ref sc), some (.int (4 - (n : Int))), some (.ref F), x5]) ∧ ∃ (us : List V) (ts : List Thing) (r' : Nat), us.length ≤ i + 1 ∧ ts ≠ [] ∧ H' F = some (.lst us) ∧ RpL H' us (encs ts) ∧ TsOk C0 False ns n ts ∧ cntB ts + r' = r ∧
    Dr H' d L ∧ Kt H' k kd r' fig wide ∧ Go (M2 d k) H H') ⟨⟨_, rfl⟩, [v1], [t1], ra, Nat.le_refl _, by simp, hF3, rpl_cons hR3 rpl_nil, ⟨hT1, trivial⟩, by show cntT t1 + 0 + ra = r; omega, hD3, ⟨hk3, hkd3⟩, G3⟩ (fun i σ H4 hi hP => ?_) (fun σ H4 hP => ?_)
  · obtain ⟨⟨x5, rfl⟩, us, ts, r', hus, hts, hF4, hR4, hT4, ec, hD4, hK4, G4⟩ := hP
    refine ⟨_, rfl, k, _, 0, _, rfl, rfl, SqL.of hK4.1, rfl, _, 0, rfl, rfl, _, rfl, ite2 (fun c5 => ?_) (fun c5 => ?_)⟩
    · have hr1 : (0 : Int) < (r' : Int) := of_decide_eq_true c5
      refine ⟨_, rfl, .inl ⟨rfl, _, SqL.of hF4⟩, _, rfl, _, rfl, _, rfl, _, rfl, d, L, k, kd, sc, r', fig, wide, ns, rfl, hD4, hK4, nkd, nkL, by omega, by omega, G4.at hsc nMsc, nsd, nsk, hSc, hne, hlen, fun v c r'' H5 hp e5 hD5 hK5 G45 => ?_⟩
      obtain ⟨t, hR, hT, hc⟩ := hp
      have hF5 := G45.at hF4 (fun z => z.elim nFd.1 nFk)
      have nFL := nFd.2
      refine ⟨F, us, v, rfl, rfl, hF5, szl (by omega), ?_⟩
      have i45 : Imm H4 (upd H5 F (.lst (us ++ [v]))) := G45.im.upd fun xs e => by rw [hF4] at e; cases e
      have i5 : Imm H5 (upd H5 F (.lst (us ++ [v]))) := (Imm.refl H5).upd fun xs e => by rw [hF5] at e; cases e
      refine ⟨⟨_, rfl⟩, us ++ [v], ts ++ [t], r'', ?_, ?_, upd_same, ?_, ?_, ?_, hD5.upd nFd.1 nFL, ⟨?_, ?_⟩, (G4.trans G45).own nFH⟩
      · rw [List.length_append]
        show us.length + 1 ≤ i + 1 + 1
        omega
      · simp
      · rw [encs_append]
        exact (hR4.to i45).append (rpl_cons (hR.to i5) rpl_nil)
      · rw [tsok_iff] at hT4 ⊢
        intro u hu
        rcases List.mem_append.mp hu with h1 | h1
        · exact hT4 u h1
        · rw [List.mem_singleton.mp h1]
          exact hT
      · rw [cntB_append]
        show cntB ts + (cntT t + 0) + r'' = r
        omega
      · rw [upd_ne nFk.symm]
        exact hK5.1
      · have nFkd : kd ≠ F := ne_of hK5.2 hF5 (fun z => by cases z)
        rw [upd_ne nFkd]
        exact hK5.2
    · exact ⟨⟨_, rfl⟩, us, ts, r', by omega, hts, hF4, hR4, hT4, ec, hD4, hK4, G4⟩
  · obtain ⟨⟨x5, rfl⟩, us, ts, r', hus, hts, hF4, hR4, hT4, ec, hD4, hK4, G4⟩ := hP
    refine ⟨_, rfl, F, us, rfl, .inl ⟨SqL.of hF4, fun p np => ?_⟩⟩
    have ip : Imm H4 (upd H4 p (.tup us)) := Imm.same (same_new np)
    exact q _ (cntB ts) r' _ ⟨ts, hts, rp_tup upd_same (hR4.to ip), hT4, rfl⟩ ec (hD4.new np) ⟨same_new np _ _ hK4.1, same_new np _ _ hK4.2⟩ (G4.new np)
theorem fn_none {f : Addr} {fd : FuncData} {k : Nat} {ps : List Str} : FnOk P w K mg base CX0 k f fd ps (fun _ _ _ _ => False) :=
  ⟨fun _ _ _ _ h => h.elim, fun _ _ _ _ _ _ _ _ _ _ _ _ _ h => h.elim⟩
theorem ok_drawing (T : Tops w K mg) : ∀ n : Nat, FnOk P w K mg base CX0 (6 + 2 * n) T.fl_drawn_body T.dl_drawn_body ["_law_draw", "_law_kit", "_law_scope", "_law_deep"] (spDrawBody n)
  | 0 => ok_drawn_body T 0 (ok_drawn_thing T 0 fn_none)
  | n + 1 => ok_drawn_body T (n + 1) (ok_drawn_thing T (n + 1) (by
      have := ok_drawing T n
      rw [show 4 + 2 * (n + 1) = 6 + 2 * n by omega]
      exact this))
theorem ok_drawn (T : Tops w K mg) : FnOk P w K mg base CX0 15 T.fl_drawn T.dl_drawn ["_law_draw", "_law_room", "_law_figures", "_law_wide"] spDrawn := by
  have Gl_drawn_body : FnOk P w K mg base CX0 14 T.fl_drawn_body T.dl_drawn_body ["_law_draw", "_law_kit", "_law_scope", "_law_deep"] (spDrawBody 4) := ok_drawing T 4
  refine T.Fl_drawn.ok (k := 14) scl_drawn (fun vs H Q E h => ?_) (fun cdv A outer s H vs Q E hr h => ?_)
  · obtain ⟨d, L, r, fig, wide, rfl, _⟩ := h
    rfl
  obtain ⟨d, L, r, fig, wide, rfl, hD, r1, r2, q⟩ := h
  refine ⟨_, (pss_one (ps_ret (pe_call Gl_drawn_body (hr.mono (by omega)) (by rfl) T.gl_drawn_body T.Fl_drawn_body.kp T.bl_drawn_body .nil pass0 (pa_cons (pv 0) (pa_cons (pe_lst (pa_cons (pv 1) (pa_cons pe_dnewK (pa_cons (pv 2) (pa_cons (pv 3) pa_nil))))) (pa_cons (pe_lst (pa_cons pe_str pa_nil)) (pa_cons pe_int pa_nil))))))), ?_⟩
  refine ⟨_, rfl, _, rfl, fun kd nkd0 => ?_⟩
  refine ⟨_, rfl, _, rfl, (by show 4 ≤ sizeLine; decide), fun k nk => ?_⟩
  refine ⟨(by show 1 ≤ sizeLine; decide), fun sc nsc => ?_⟩
  have s1 : Same H (upd H kd (.dK [])) := same_new nkd0
  have s2 := s1.trans (same_new (o := .lst [.int r, .ref kd, .bl fig, .bl wide]) nk)
  have s3 := s2.trans (same_new (o := .lst [.str "n"]) nsc)
  have hD1 := hD.new (o := .dK []) nkd0
  have hD2 := hD1.new (o := .lst [.int r, .ref kd, .bl fig, .bl wide]) nk
  have hD3 := hD2.new (o := .lst [.str "n"]) nsc
  have k1 := hD1.neNew nk
  have c1 := hD2.neNew nsc
  have hk : (upd (upd (upd H kd (.dK [])) k (.lst [.int r, .ref kd, .bl fig, .bl wide])) sc (.lst [.str "n"])) k = some (.lst [.int r, .ref kd, .bl fig, .bl wide]) := same_new nsc _ _ upd_same
  have hkd : (upd (upd (upd H kd (.dK [])) k (.lst [.int r, .ref kd, .bl fig, .bl wide])) sc (.lst [.str "n"])) kd = some (.dK []) := same_new nsc _ _ (same_new nk _ _ upd_same)
  have csk : sc ≠ k := (ne_of_none upd_same nsc).symm
  refine ⟨d, L, k, kd, sc, r, fig, wide, ["n"], rfl, hD3, ⟨hk, hkd⟩, k1.1, k1.2, r1, r2, upd_same, c1.1, csk, fun x hx => .inl (List.mem_singleton.mp hx), by simp, by decide, fun v c r' H' hp e hD' hK' G' => ?_⟩
  obtain ⟨ts, hts, hR, hT, hc⟩ := hp
  have nkH : H k = none := s1.free nk
  refine q v ts H' hts hR hT (by omega) hD' ⟨fun b u nb hb => ?_, ?_⟩
  · have n1 : b ≠ k := ne_of_none hb nkH
    exact G'.sx b u (fun z => z.elim nb n1) (s3 b u hb)
  · exact (Imm.same s3).trans G'.im
end
end K05

set_option Elab.async false
set_option linter.all false
set_option maxRecDepth 100000
set_option maxHeartbeats 4000000
namespace K05
open PySem PySem.Spec PyProof.Rows L2 OG
open C8 (pss_cut pe_gc)
open OGX

section
variable {P : Program} {w : World} {K : PySem.W.Frag} {mg : Str → Option Value} {base : Heap}
/-! ### words of a text -/
def wt : List Str → Nat
  | [] => 0
  | y :: r => y.length + 1 + wt r
theorem wt_app : ∀ a b : List Str, wt (a ++ b) = wt a + wt b
  | [], b => by show wt b = 0 + wt b; omega
  | y :: r, b => by
    show y.length + 1 + wt (r ++ b) = y.length + 1 + wt r + wt b
    rw [wt_app r b]
    omega
theorem wt_sub {a b : List Str} (h : List.Sublist a b) : wt a ≤ wt b := by
  induction h with
  | slnil => exact Nat.le_refl _
  | cons x _ ih => show _ ≤ x.length + 1 + _; omega
  | cons_cons x _ ih => show x.length + 1 + _ ≤ x.length + 1 + _; omega
theorem wt_len : ∀ a : List Str, a.length ≤ wt a
  | [] => Nat.le_refl _
  | y :: r => by
    have := wt_len r
    show r.length + 1 ≤ y.length + 1 + wt r
    omega
theorem wt_sum : ∀ a : List Str, (a.map (·.length)).sum + a.length * 1 = wt a
  | [] => rfl
  | y :: r => by
    have := wt_sum r
    rw [List.map_cons, List.sum_cons, List.length_cons]
    show _ = y.length + 1 + wt r
    omega
theorem wt_cut (ys : List Str) (lo hi : Option Int) : ∃ ms : List Str, cutV (ys.map V.str) lo hi = ms.map V.str ∧ wt ms ≤ wt ys := by
  refine ⟨(ys.drop (HT.sIx ys.length 0 lo)).take (HT.sIx ys.length ys.length hi - HT.sIx ys.length 0 lo), ?_, wt_sub ((List.take_sublist _ _).trans (List.drop_sublist _ _))⟩
  unfold cutV
  rw [List.length_map, List.map_take, List.map_drop]
theorem len_app (a b : Str) : (a ++ b).length = a.length + b.length := by
  show (a.cps ++ b.cps).size = _
  rw [Array.size_append]
  rfl
theorem wt_join : ∀ ys : List Str, (Txt.join " " ys).length ≤ wt ys
  | [] => Nat.zero_le _
  | [x] => by show x.length ≤ x.length + 1 + 0; omega
  | x :: y :: r => by
    have := wt_join (y :: r)
    have e0 : Txt.join " " (x :: y :: r) = x ++ " " ++ Txt.join " " (y :: r) := by
      unfold Txt.join
      rw [PySem.StrLaws.glued_eq_join, PySem.StrLaws.glued_eq_join]
      rfl
    rw [e0]
    show _ ≤ x.length + 1 + wt (y :: r)
    rw [len_app, len_app]
    have e : (" " : Str).length = 1 := by decide +kernel
    rw [e]
    omega
def wl : List (List Nat) → Nat
  | [] => 0
  | y :: r => y.length + 1 + wl r
theorem wl_spl : ∀ (l acc : List Nat), wl (TL.spl [32] 0 acc l) = acc.length + l.length + 1 ∧ TL.spl [32] 0 acc l ≠ []
  | [], acc => by
    rw [TL.spl_nil]
    exact ⟨rfl, fun z => by cases z⟩
  | c :: r, acc => by
    cases h : TL.pre [32] (c :: r) with
    | true =>
      rw [TL.spl_hit h]
      refine ⟨?_, fun z => by cases z⟩
      have := (wl_spl r []).1
      show acc.length + 1 + wl (TL.spl [32] 0 [] r) = _
      rw [this, List.length_cons]
      show acc.length + 1 + (0 + r.length + 1) = _
      omega
    | false =>
      rw [TL.spl_miss h]
      have := wl_spl r (acc ++ [c])
      refine ⟨?_, this.2⟩
      rw [this.1, List.length_append, List.length_cons]
      show acc.length + 1 + r.length + 1 = acc.length + (r.length + 1) + 1
      omega
theorem wt_S : ∀ l : List (List Nat), wt (l.map S) = wl l
  | [] => rfl
  | y :: r => by
    show (S y).length + 1 + wt (r.map S) = y.length + 1 + wl r
    rw [wt_S r]
    rfl
theorem wt_split (z : Str) : wt (Txt.split z " ") = z.length + 1 ∧ Txt.split z " " ≠ [] := by
  have e : Txt.split z " " = (TL.spl [32] 0 [] (tl z)).map S := SX.split_S (a := tl z) (b := [32]) (by decide) (by decide)
  rw [e, wt_S]
  have := wl_spl (tl z) []
  refine ⟨?_, fun h => this.2 (List.map_eq_nil_iff.mp h)⟩
  rw [this.1, len_tl]
  show 0 + _ + 1 = _
  omega
theorem len_rep (z : Str) (k : Nat) : (S (List.replicate k (tl z)).flatten).length = k * z.length := by
  show ((List.replicate k (tl z)).flatten.toArray).size = _
  rw [List.size_toArray, List.length_flatten, List.map_replicate, List.sum_replicate_nat, len_tl]
def spSpoil : Sp := fun vs H Q _ => ∃ (d L : Addr) (z : Str), vs = [.ref d, .str z] ∧ Dr H d L ∧ z.length ≤ 20000 ∧ ∀ (z' : Str) (H' : Hp), z'.length ≤ 4 * z.length + 100 → Dr H' d L → Go (· = d) H H' → Q (.str z') H'
def someS : List Str := ["step", "for", "n", "(", ")", ";", "0", "07", "99", "100", "abcdefghi", "x", "+", "<=", "else", "again"]
theorem some_len {x : Str} (h : x ∈ someS) : x.length ≤ 9 := by
  have : ∀ y ∈ someS, y.length ≤ 9 := by decide +kernel
  exact this x h
def endS : List Str := ["; step 1", " ", ";", ")", " step", "; again 1 on less", S (List.replicate (12 : Int).toNat (tl "; step 1")).flatten]
theorem end_len {x : Str} (h : x ∈ endS) : x.length ≤ 96 := by
  have : ∀ y ∈ endS, y.length ≤ 96 := by decide +kernel
  exact this x h
theorem ok_spoil (T : Tops w K mg) : FnOk P w K mg base CX0 5 T.fl_spoilt_text T.dl_spoilt_text ["_law_draw", "_law_text"] spSpoil := by
  have Gl_take : FnOk P w K mg base CX0 1 T.fl_take T.dl_take ["_law_draw", "_law_sides"] spTake := ok_take T
  have Gl_pick : FnOk P w K mg base CX0 2 T.fl_pick T.dl_pick ["_law_draw", "_law_row"] (spPick K) := ok_pick T
  refine T.Fl_spoilt_text.ok (k := 4) scl_spoilt_text (fun vs H Q E h => ?_) (fun cdv A outer s H vs Q E hr h => ?_)
  · obtain ⟨d, L, z, rfl, _⟩ := h
    rfl
  obtain ⟨d, L, z, rfl, hD, hz, q⟩ := h
  refine ⟨_, (pss_cons (ps_set (i := 2) scl_spoilt_text.nd rfl (Or.inl rfl) (pe_split (pv 1) pe_str))
 (pss_cons (ps_set (i := 3) scl_spoilt_text.nd rfl (Or.inl rfl) (pe_call Gl_take (hr.mono (by omega)) (by rfl) T.gl_take T.Fl_take.kp T.bl_take .nil pass0 (pa_cons (pv 0) (pa_cons (pe_callB call_len_seq (by rfl) T.mlen PySem.boot_len (pa_cons (pv 2) pa_nil)) pa_nil))))
 (pss_cons (ps_set (i := 4) scl_spoilt_text.nd rfl (Or.inl rfl) (pe_lst (pa_cons pe_str (pa_cons pe_str (pa_cons pe_str (pa_cons pe_str (pa_cons pe_str (pa_cons pe_str (pa_cons pe_str (pa_cons pe_str (pa_cons pe_str (pa_cons pe_str (pa_cons pe_str (pa_cons pe_str (pa_cons pe_str (pa_cons pe_str (pa_cons pe_str (pa_cons pe_str pa_nil))))))))))))))))))
 (pss_cons (ps_set (i := 5) scl_spoilt_text.nd rfl (Or.inl rfl) (pe_call Gl_take (hr.mono (by omega)) (by rfl) T.gl_take T.Fl_take.kp T.bl_take .nil pass0 (pa_cons (pv 0) (pa_cons pe_int pa_nil))))
 (pss_cons (ps_if (pt_cmpR op_eq (pv 5) pe_int (nomark _))
  (pss_one (ps_ret (pe_join pe_str (pe_op op_cat (pe_slice sl_list (pv 2) po_none (po_some (pv 3))) (pe_slice sl_list (pv 2) (po_some (pe_op op_add (pv 3) pe_int)) po_none)))))
  pss_nil)
 (pss_cons (ps_if (pt_cmpR op_eq (pv 5) pe_int (nomark _))
  (pss_one (ps_ret (pe_join pe_str (pe_op op_cat (pe_op op_cat (pe_slice sl_list (pv 2) po_none (po_some (pv 3))) (pe_op op_rep (pe_slice sl_list (pv 2) (po_some (pv 3)) (po_some (pe_op op_add (pv 3) pe_int))) pe_int)) (pe_slice sl_list (pv 2) (po_some (pe_op op_add (pv 3) pe_int)) po_none)))))
  pss_nil)
 (pss_cons (ps_if (pt_cmpR op_eq (pv 5) pe_int (nomark _))
  (pss_one (ps_ret (pe_join pe_str (pe_op op_cat (pe_op op_cat (pe_slice sl_list (pv 2) po_none (po_some (pv 3))) (pe_lst (pa_cons (pe_call Gl_pick (hr.mono (by omega)) (by rfl) T.gl_pick T.Fl_pick.kp T.bl_pick .nil pass0 (pa_cons (pv 0) (pa_cons (pv 4) pa_nil))) pa_nil))) (pe_slice sl_list (pv 2) (po_some (pe_op op_add (pv 3) (pe_call Gl_take (hr.mono (by omega)) (by rfl) T.gl_take T.Fl_take.kp T.bl_take .nil pass0 (pa_cons (pv 0) (pa_cons pe_int pa_nil))))) po_none)))))
  pss_nil)
 (pss_cons (ps_if (pt_cmpR op_eq (pv 5) pe_int (nomark _))
  (pss_one (ps_ret (pe_op op_add_str (pv 1) (pe_call Gl_pick (hr.mono (by omega)) (by rfl) T.gl_pick T.Fl_pick.kp T.bl_pick .nil pass0 (pa_cons (pv 0) (pa_cons (pe_lst (pa_cons pe_str (pa_cons pe_str (pa_cons pe_str (pa_cons pe_str (pa_cons pe_str (pa_cons pe_str (pa_cons (pe_op op_repS pe_str pe_int) pa_nil)))))))) pa_nil))))))
  pss_nil)
 (pss_cons (ps_set (i := 6) scl_spoilt_text.nd rfl (Or.inl rfl) (pe_call Gl_take (hr.mono (by omega)) (by rfl) T.gl_take T.Fl_take.kp T.bl_take .nil pass0 (pa_cons (pv 0) (pa_cons (pe_op op_add (pe_callB call_len_str (by rfl) T.mlen PySem.boot_len (pa_cons (pv 1) pa_nil)) pe_int) pa_nil))))
 (pss_one (ps_ret (pe_op op_add_str (pe_op op_add_str (pe_slice sl_str (pv 1) po_none (po_some (pv 6))) (pe_op op_repS (pe_call Gl_pick (hr.mono (by omega)) (by rfl) T.gl_pick T.Fl_pick.kp T.bl_pick .nil pass0 (pa_cons (pv 0) (pa_cons pe_str pa_nil))) (pe_call Gl_take (hr.mono (by omega)) (by rfl) T.gl_take T.Fl_take.kp T.bl_take .nil pass0 (pa_cons (pv 0) (pa_cons pe_int pa_nil))))) (pe_slice sl_str (pv 1) (po_some (pe_op op_add (pv 6) (pe_call Gl_take (hr.mono (by omega)) (by rfl) T.gl_take T.Fl_take.kp T.bl_take .nil pass0 (pa_cons (pv 0) (pa_cons pe_int pa_nil))))) po_none))))))))))))), ?_⟩
  have W := wt_split z
  generalize hws : Txt.split z " " = ws at W
  have lws := wt_len ws
  have lpos : 0 < ws.length := List.length_pos_iff.mpr W.2
  refine ⟨_, rfl, ⟨_, rfl⟩, _, " ", rfl, rfl, by decide +kernel, sz (by omega), ?_⟩
  rw [hws]
  intro wp nwp
  have s1 := same_new (o := .lst (ws.map V.str)) nwp
  refine ⟨_, rfl, _, rfl, wp, _, rfl, .inl (SqL.of upd_same), d, L, _, rfl, hD.same s1, ?_, ?_, fun at0 H2 a0 a1 hD2 hB2 => ?_⟩
  · rw [List.length_map]; omega
  · rw [List.length_map]; omega
  have G2 : Go (· = d) H H2 := (Go.same s1).trans (Go.but (hD.same s1) hB2 rfl)
  have nwd := (hD.neNew nwp).1
  have hw2 : H2 wp = some (.lst (ws.map V.str)) := (hB2 wp nwd).trans upd_same
  refine ⟨(by show 16 ≤ sizeLine; decide), fun sp nsp => ?_⟩
  have s3 := same_new (o := .lst (someS.map V.str)) nsp
  have hD3 := hD2.same s3
  have nsd := (hD2.neNew nsp).1
  refine ⟨_, rfl, d, L, 6, rfl, hD3, by decide, by decide, fun f H4 f0 f1 hD4 hB4 => ?_⟩
  have G4 : Go (· = d) H H4 := (G2.trans (Go.same s3)).trans (Go.but hD3 hB4 rfl)
  have hw4 : H4 wp = some (.lst (ws.map V.str)) := (hB4 wp nwd).trans (s3 _ _ hw2)
  have hs4 : H4 sp = some (.lst (someS.map V.str)) := (hB4 sp nsd).trans upd_same
  have cut : ∀ (lo hi : Option Int), ∃ ms : List Str, cutV (ws.map V.str) lo hi = ms.map V.str ∧ wt ms ≤ wt ws := wt_cut ws
  refine ⟨_, rfl, rfl, _, rfl, ite2 (fun c0 => ?_) (fun c0 => ?_)⟩
  · -- one word out
    refine ⟨⟨_, rfl⟩, _, rfl, _, rfl, at0, rfl, wp, _, rfl, SqL.of hw4, fun p1 np1 => ?_⟩
    obtain ⟨m1, e1, w1⟩ := cut none (some at0)
    rw [e1]
    have t1 := same_new (o := .lst (m1.map V.str)) np1
    refine ⟨_, rfl, _, rfl, at0, 1, rfl, rfl, _, rfl, wp, _, rfl, SqL.of (t1 _ _ hw4), fun p2 np2 => ?_⟩
    obtain ⟨m2, e2, w2⟩ := cut (some (at0 + 1)) none
    rw [e2]
    have t2 := same_new (o := .lst (m2.map V.str)) np2
    have l1 := wt_len m1
    have l2 := wt_len m2
    refine ⟨p1, p2, _, _, rfl, rfl, t2 _ _ upd_same, upd_same, ?_, fun p3 np3 => ?_⟩
    · rw [List.length_map, List.length_map]
      exact sz (by omega)
    rw [← List.map_append]
    have t3 := same_new (o := .lst ((m1 ++ m2).map V.str)) np3
    have tt := (t1.trans t2).trans t3
    refine ⟨_, p3, m1 ++ m2, rfl, rfl, .inl (SqL.of upd_same), ?_, ?_⟩
    · show _ + _ * 1 ≤ _
      rw [wt_sum, wt_app]
      omega
    have := wt_join (m1 ++ m2)
    rw [wt_app] at this
    exact q _ _ (by omega) (hD4.same tt) (G4.trans (Go.same tt))
  refine ⟨_, rfl, rfl, _, rfl, ite2 (fun c1 => ?_) (fun c1 => ?_)⟩
  · -- one word twice
    refine ⟨⟨_, rfl⟩, _, rfl, _, rfl, at0, rfl, wp, _, rfl, SqL.of hw4, fun p1 np1 => ?_⟩
    obtain ⟨m1, e1, w1⟩ := cut none (some at0)
    rw [e1]
    have t1 := same_new (o := .lst (m1.map V.str)) np1
    refine ⟨_, rfl, _, rfl, at0, rfl, _, rfl, at0, 1, rfl, rfl, _, rfl, wp, _, rfl, SqL.of (t1 _ _ hw4), fun p2 np2 => ?_⟩
    obtain ⟨m2, e2, w2⟩ := cut (some at0) (some (at0 + 1))
    rw [e2]
    have t2 := same_new (o := .lst (m2.map V.str)) np2
    have l1 := wt_len m1
    have l2 := wt_len m2
    refine ⟨p2, 2, _, rfl, rfl, upd_same, by decide, by decide, ?_, fun p3 np3 => ?_⟩
    · rw [List.length_map]
      show m2.length * 2 ≤ sizeLine
      exact sz (by omega)
    have e3 : (List.replicate (2 : Int).toNat (m2.map V.str)).flatten = (m2 ++ m2).map V.str := by
      show m2.map V.str ++ (m2.map V.str ++ []) = _
      rw [List.append_nil, List.map_append]
    rw [e3]
    have t3 := same_new (o := .lst ((m2 ++ m2).map V.str)) np3
    have t23 := t2.trans t3
    refine ⟨p1, p3, _, _, rfl, rfl, t23 _ _ upd_same, upd_same, ?_, fun p4 np4 => ?_⟩
    · rw [List.length_map, List.length_map, List.length_append]
      exact sz (by omega)
    rw [← List.map_append]
    have t4 := same_new (o := .lst ((m1 ++ (m2 ++ m2)).map V.str)) np4
    have t14 := (t1.trans t23).trans t4
    refine ⟨_, rfl, _, rfl, at0, 1, rfl, rfl, _, rfl, wp, _, rfl, SqL.of (t14 _ _ hw4), fun p5 np5 => ?_⟩
    obtain ⟨m5, e5, w5⟩ := cut (some (at0 + 1)) none
    rw [e5]
    have l5 := wt_len m5
    have t5 := same_new (o := .lst (m5.map V.str)) np5
    refine ⟨p4, p5, _, _, rfl, rfl, t5 _ _ upd_same, upd_same, ?_, fun p6 np6 => ?_⟩
    · rw [List.length_map, List.length_map, List.length_append, List.length_append]
      exact sz (by omega)
    rw [← List.map_append]
    have t6 := same_new (o := .lst (((m1 ++ (m2 ++ m2)) ++ m5).map V.str)) np6
    have tt := (t14.trans t5).trans t6
    refine ⟨_, p6, (m1 ++ (m2 ++ m2)) ++ m5, rfl, rfl, .inl (SqL.of upd_same), ?_, ?_⟩
    · show _ + _ * 1 ≤ _
      rw [wt_sum, wt_app, wt_app, wt_app]
      omega
    have := wt_join ((m1 ++ (m2 ++ m2)) ++ m5)
    rw [wt_app, wt_app, wt_app] at this
    exact q _ _ (by omega) (hD4.same tt) (G4.trans (Go.same tt))
  refine ⟨_, rfl, rfl, _, rfl, ite2 (fun c2 => ?_) (fun c2 => ?_)⟩
  · -- one word put in
    refine ⟨⟨_, rfl⟩, _, rfl, _, rfl, at0, rfl, wp, _, rfl, SqL.of hw4, fun p1 np1 => ?_⟩
    obtain ⟨m1, e1, w1⟩ := cut none (some at0)
    rw [e1]
    have t1 := same_new (o := .lst (m1.map V.str)) np1
    have l1 := wt_len m1
    refine ⟨_, rfl, _, rfl, d, L, _, 16, rfl, hD4.same t1, by decide, by decide, .inr ⟨sp, _, rfl, nsd, SqL.of (t1 _ _ hs4), rfl, fun y H5 hy hD5 hB5 => ?_⟩⟩
    obtain ⟨x, rfl, hx⟩ := mem_strs (ns := someS) hy
    have lx := some_len hx
    have n1d := (hD4.neNew np1).1
    have G5 : Go (· = d) H H5 := (G4.trans (Go.same t1)).trans (Go.but (hD4.same t1) hB5 rfl)
    have h15 : H5 p1 = some (.lst (m1.map V.str)) := (hB5 p1 n1d).trans upd_same
    have hw5 : H5 wp = some (.lst (ws.map V.str)) := (hB5 wp nwd).trans (t1 _ _ hw4)
    refine ⟨(by show 1 ≤ sizeLine; decide), fun p2 np2 => ?_⟩
    have t2 := same_new (o := .lst [.str x]) np2
    refine ⟨p1, p2, _, [.str x], rfl, rfl, t2 _ _ h15, upd_same, ?_, fun p3 np3 => ?_⟩
    · rw [List.length_map]
      show m1.length + 1 ≤ sizeLine
      exact sz (by omega)
    have e3 : m1.map V.str ++ [V.str x] = (m1 ++ [x]).map V.str := by rw [List.map_append]; rfl
    rw [e3]
    have t3 := same_new (o := .lst ((m1 ++ [x]).map V.str)) np3
    have t23 := t2.trans t3
    have n3d := ((hD5.same t2).neNew np3).1
    refine ⟨_, rfl, _, rfl, _, rfl, d, L, 2, rfl, hD5.same t23, by decide, by decide, fun g H6 g0 g1 hD6 hB6 => ?_⟩
    have G6 : Go (· = d) H H6 := (G5.trans (Go.same t23)).trans (Go.but (hD5.same t23) hB6 rfl)
    have h36 : H6 p3 = some (.lst ((m1 ++ [x]).map V.str)) := (hB6 p3 n3d).trans upd_same
    have hw6 : H6 wp = some (.lst (ws.map V.str)) := (hB6 wp nwd).trans (t23 _ _ hw5)
    refine ⟨at0, g, rfl, rfl, _, rfl, wp, _, rfl, SqL.of hw6, fun p4 np4 => ?_⟩
    obtain ⟨m4, e4, w4⟩ := cut (some (at0 + g)) none
    rw [e4]
    have l4 := wt_len m4
    have t4 := same_new (o := .lst (m4.map V.str)) np4
    refine ⟨p3, p4, _, _, rfl, rfl, t4 _ _ h36, upd_same, ?_, fun p5 np5 => ?_⟩
    · rw [List.length_map, List.length_map, List.length_append]
      show m1.length + 1 + _ ≤ _
      exact sz (by omega)
    rw [← List.map_append]
    have t5 := same_new (o := .lst (((m1 ++ [x]) ++ m4).map V.str)) np5
    have tt := t4.trans t5
    have wx : wt [x] ≤ 10 := by show x.length + 1 + 0 ≤ 10; omega
    refine ⟨_, p5, (m1 ++ [x]) ++ m4, rfl, rfl, .inl (SqL.of upd_same), ?_, ?_⟩
    · show _ + _ * 1 ≤ _
      rw [wt_sum, wt_app, wt_app]
      omega
    have := wt_join ((m1 ++ [x]) ++ m4)
    rw [wt_app, wt_app] at this
    exact q _ _ (by omega) (hD6.same tt) (G6.trans (Go.same tt))
  refine ⟨_, rfl, rfl, _, rfl, ite2 (fun c3 => ?_) (fun c3 => ?_)⟩
  · -- something behind
    refine ⟨_, rfl, _, rfl, _, 12, rfl, rfl, by decide, by decide, by decide +kernel, (by show 7 ≤ sizeLine; decide), fun p1 np1 => ?_⟩
    have t1 := same_new (o := .lst [.str "; step 1", .str " ", .str ";", .str ")", .str " step", .str "; again 1 on less", .str (S (List.replicate (12 : Int).toNat (tl "; step 1")).flatten)]) np1
    refine ⟨d, L, _, 7, rfl, hD4.same t1, by decide, by decide, .inr ⟨p1, _, rfl, (hD4.neNew np1).1, SqL.of upd_same, rfl, fun y H5 hy hD5 hB5 => ?_⟩⟩
    obtain ⟨x, rfl, hx⟩ := mem_strs (ns := endS) hy
    have lx := end_len hx
    exact ⟨_, _, rfl, rfl, sz (by omega), q _ _ (by rw [len_app]; omega) hD5 ((G4.trans (Go.same t1)).trans (Go.but (hD4.same t1) hB5 rfl))⟩
  -- a sign put in
  refine ⟨_, rfl, _, rfl, z, rfl, sz (by omega), _, 1, rfl, rfl, d, L, _, rfl, hD4, by omega, by omega, fun pl H5 pl0 pl1 hD5 hB5 => ?_⟩
  have G5 : Go (· = d) H H5 := G4.trans (Go.but hD4 hB5 rfl)
  refine ⟨_, rfl, _, rfl, pl, rfl, z, rfl, sz (by omega), ?_⟩
  refine ⟨_, rfl, d, L, _, 14, rfl, hD5, by decide, by decide, .inl ⟨_, rfl, by decide +kernel, fun c H6 hc hD6 hB6 => ?_⟩⟩
  have G6 : Go (· = d) H H6 := G5.trans (Go.but hD5 hB6 rfl)
  refine ⟨_, rfl, d, L, 2, rfl, hD6, by decide, by decide, fun g H7 g0 g1 hD7 hB7 => ?_⟩
  have G7 : Go (· = d) H H7 := G6.trans (Go.but hD6 hB7 rfl)
  have lc := cutS_length z none (some pl)
  have e1 : (⟨#[c]⟩ : Str).length = 1 := rfl
  have lr := len_rep (⟨#[c]⟩ : Str) g.toNat
  rw [e1] at lr
  refine ⟨_, g, rfl, rfl, by omega, by omega, (by rw [e1]; omega), _, _, rfl, rfl, sz (by omega), ?_⟩
  refine ⟨_, rfl, _, rfl, _, rfl, d, L, 2, rfl, hD7, by decide, by decide, fun g2 H8 g20 g21 hD8 hB8 => ?_⟩
  have lc2 := cutS_length z (some (pl + g2)) none
  refine ⟨pl, g2, rfl, rfl, _, rfl, z, rfl, sz (by omega), _, _, rfl, rfl, ?_, q _ _ ?_ hD8 (G7.trans (Go.but hD7 hB8 rfl))⟩
  · rw [len_app]
    exact sz (by omega)
  · rw [len_app, len_app]
    omega
end
end K05

set_option Elab.async false
set_option linter.all false
set_option maxRecDepth 100000
set_option maxHeartbeats 4000000
namespace K05
open PySem PySem.Spec PyProof.Rows L2 OG
open C8 (pss_cut pe_gc)
open OGX

section
variable {P : Program} {w : World} {K : PySem.W.Frag} {mg : Str → Option Value} {base : Heap}
def lamQ : Str := (envOfC "law" (defScope slaw) 0 0 .none).qual ++ "<lambda>"
def spLawT (K : PySem.W.Frag) (PL : Addr) : Sp := fun vs H Q _ => ∃ (a : Addr) (ns : List Int), vs = [.ref a] ∧ SqL K H a (ns.map V.int) ∧ ns.length ≤ 63 ∧ H PL = some (.tbl #[]) ∧ ∀ H', Q (.bl true) H'
def Kp (d : Addr) (H H' : Hp) : Prop := ∀ b o, b ≠ d → H b = some o → H' b = some o
theorem Kp.trans {d : Addr} {H H1 H2 : Hp} (a : Kp d H H1) (b : Kp d H1 H2) : Kp d H H2 := fun x o n h => b x o n (a x o n h)
theorem Kp.same {d : Addr} {H H' : Hp} (a : Same H H') : Kp d H H' := fun x o _ h => a x o h
theorem Kp.but {d : Addr} {H H' : Hp} (a : But d H H') : Kp d H H' := fun x o n h => (a x n).trans h
theorem Kp.go {d : Addr} {H H' : Hp} (a : Go (· = d) H H') : Kp d H H' := fun x o n h => a.at h n
theorem tabs_kp {T : List (Addr × Str)} {d L : Addr} {H H' : Hp} (hD : Dr H d L) (t : LamX.Tabs T H) (k : Kp d H H') : LamX.Tabs T H' := fun p hp => by
  obtain ⟨ps, h1, h2, h3⟩ := t p hp
  obtain ⟨ns, i, r, s, hd, _⟩ := hD
  refine ⟨ps, k _ _ (fun z => by rw [z, hd] at h1; cases h1) h1, h2, fun pos cv hc => ?_⟩
  obtain ⟨c, e1, e2⟩ := h3 pos cv hc
  exact ⟨c, e1, k _ _ (fun z => by rw [z, hd] at e2; unfold LamX.CodeO at e2; cases e2) e2⟩
theorem dr_ext {H H1 : Hp} (e : LamX.ExtN H H1) {d L : Addr} (h : Dr H d L) : Dr H1 d L := by
  obtain ⟨ns, i, r, s, hd, hL, q⟩ := h
  exact ⟨ns, i, r, s, e _ _ hd (fun ps z => by cases z), e _ _ hL (fun ps z => by cases z), q⟩
theorem imm_ext {H H1 : Hp} (e : LamX.ExtN H H1) : Imm H H1 := fun b xs hb => e b _ hb (fun ps z => by cases z)
theorem out_tried {CB : Addr} {r : RR} {H : Hp} {R A : VK} (hA : ∀ v H', (2 ≤ sizeLine ∧ ∀ p, H' p = none → R (.ref p) (upd H' p (.tup [.str "told", v]))) → A v H') (h : ∀ u H', Same H H' → Rp H' u (encRR r) → R u H') :
    match (generalizing := false) r with
    | .told ts => ∀ v H', Rp H' v (.tup (encs ts)) → Same H H' → A v H'
    | .bad n => BadE CB (eTried CB R) H n := by
  cases r with
  | told ts => exact fun v H' hv s => hA _ _ ⟨by decide, fun p np => h _ _ (s.trans (same_new np)) (rp_tup upd_same (rpl_cons rfl (rpl_cons (hv.to (Imm.same (same_new np))) rpl_nil)))⟩
  | bad n => exact fun dd H' s hdd => ⟨rfl, dd, n, rfl, hdd, fun p np => h _ _ (s.trans (same_new np)) (rp_tup upd_same (rpl_cons rfl (rpl_cons rfl rpl_nil)))⟩
def bnd : Nat → Nat
  | 0 => 880
  | i + 1 => 4 * bnd i + 100
theorem bnd2 {i : Nat} (h : i ≤ 2) : bnd i ≤ 14580 := by
  have : i = 0 ∨ i = 1 ∨ i = 2 := by omega
  rcases this with rfl | rfl | rfl <;> decide
theorem bnd3 {i : Nat} (h : i ≤ 3) : bnd i ≤ 58420 := by
  have : i = 0 ∨ i = 1 ∨ i = 2 ∨ i = 3 := by omega
  rcases this with rfl | rfl | rfl | rfl <;> decide
def fews : List Str := ["", " ", "step", "step 1;", "double (double (double (double (double (step 1)))))", S (List.replicate (13 : Int).toNat (tl "step 1; ")).flatten, "step\n1", "step 1\n", "\nstep 1", "step 1 \n; step 2"]
theorem few_len {x : Str} (h : x ∈ fews) : x.length ≤ 200 := by
  have : ∀ y ∈ fews, y.length ≤ 200 := by decide +kernel
  exact this x h
theorem ok_lawT (T : Tops w K mg) (X : Exx K mg) {cL PL : Addr} (hcode : T.dlaw.code = .ref cL) (TB : LamX.TabB base mg cL PL) : FnOk P w K mg base C8.CX0 50 T.flaw T.dlaw ["_law_script"] (spLawT K PL) := by
  have Gl_begin : FnOk P w K mg base CX0 1 T.fl_begin T.dl_begin ["_law_script"] (spBegin K) := ok_begin T
  have Gl_take : FnOk P w K mg base CX0 1 T.fl_take T.dl_take ["_law_draw", "_law_sides"] spTake := ok_take T
  have Gl_drawn : FnOk P w K mg base CX0 15 T.fl_drawn T.dl_drawn ["_law_draw", "_law_room", "_law_figures", "_law_wide"] spDrawn := ok_drawn T
  have Gl_same : FnOk P w K mg base CX0 21 T.fl_same T.dl_same ["_law_found", "_law_due"] (spSame 20) := ok_same T 20
  have Gl_written : FnOk P w K mg base CX0 11 T.fl_written T.dl_written ["_law_plan"] (spPlanText 4) := ok_written T 4 (by decide)
  have Gl_spoilt_text : FnOk P w K mg base CX0 5 T.fl_spoilt_text T.dl_spoilt_text ["_law_draw", "_law_text"] spSpoil := ok_spoil T
  have Gl_reading : FnOk P w K mg base CX0 20 T.fl_reading T.dl_reading ["_law_text"] spReading := ok_l_reading T
  have Gread_plan : FnOk P w K mg base (L2.CX P w) 28 T.fread_plan T.dread_plan ["text"] (spRPlan X.CB) := ok_read_plan T X
  have GC : FnX P w K mg base 1 T.fl_class T.dl_class ["_law_e"] (spClass X.CB) := ok_class T X
  obtain ⟨ocT, odT, kVT, docT, pmT, anT, cdT, ctT, oslT, eT, lkT, hcdT⟩ := T.Fl_tried.ex
  have hbT := T.bl_tried
  rw [eT] at lkT hbT
  obtain ⟨oc, od, kV, doc, pm, an, cdv, ct, osl, e, lk, hcd⟩ := T.Flaw.ex
  rw [e] at lk hcode ⊢
  have ec : cdv = .ref cL := hcode
  subst ec
  refine fn_of (k := 49) lk hcd sclaw (fun vs H Q E h => ?_) (fun A outer s H vs Q E hr h => ?_)
  · obtain ⟨a, ns, rfl, _⟩ := h
    rfl
  obtain ⟨a, ns, rfl, hS, hlen, hPL, q⟩ := h
  suffices hh : ∃ t, PSs (cxOf C8.CX0 P w K mg base Nlaw "law" (defScope slaw) T.flaw (.ref cL) A outer s H E).nox (defBody slaw) t ∧ t { nx := fun _ H' => Q .non H', rt := Q } (L2.start Nlaw [.ref a]) H by
    obtain ⟨t, ht, hq⟩ := hh
    exact ⟨t, ht.nox, hq⟩
  refine ⟨_, (pss_cons (ps_set (i := 1) sclaw.nd rfl (Or.inl rfl) (pe_call Gl_begin (hr.mono (by omega)) (by rfl) T.gl_begin T.Fl_begin.kp T.bl_begin .nil pass0 (pa_cons (pv 0) pa_nil)))
 (pss_cons (ps_for PassesOwn.never rfl (pi_range1 (by rfl) T.mrange (pa_cons pe_int pa_nil)) (pg_name (i := 2) sclaw.nd rfl (Or.inl rfl))
  (pss_cons (ps_set (i := 4) sclaw.nd rfl (Or.inr rfl) (pe_call Gl_written (hr.mono (by omega)) (by rfl) T.gl_written T.Fl_written.kp T.bl_written .nil pass0 (pa_cons (pe_call Gl_drawn (hr.mono (by omega)) (by rfl) T.gl_drawn T.Fl_drawn.kp T.bl_drawn .nil pass0 (pa_cons (pv 1) (pa_cons (pe_op op_add pe_int (pe_call Gl_take (hr.mono (by omega)) (by rfl) T.gl_take T.Fl_take.kp T.bl_take .nil pass0 (pa_cons (pv 1) (pa_cons pe_int pa_nil)))) (pa_cons pe_bl (pa_cons pe_bl pa_nil))))) pa_nil)))
 (pss_cons (ps_for PassesOwn.never rfl (pi_range1 (by rfl) T.mrange (pa_cons (pe_op op_add pe_int (pe_call Gl_take (hr.mono (by omega)) (by rfl) T.gl_take T.Fl_take.kp T.bl_take .nil pass0 (pa_cons (pv 1) (pa_cons pe_int pa_nil)))) pa_nil)) (pg_name (i := 5) sclaw.nd rfl (Or.inl rfl))
  (pss_one (ps_set (i := 4) sclaw.nd rfl (Or.inr rfl) (pe_call Gl_spoilt_text (hr.mono (by omega)) (by rfl) T.gl_spoilt_text T.Fl_spoilt_text.kp T.bl_spoilt_text .nil pass0 (pa_cons (pv 1) (pa_cons (pv 4) pa_nil))))))
 (pss_one (ps_if (pt_not (pt_val (pe_call Gl_same (hr.mono (by omega)) (by rfl) T.gl_same T.Fl_same.kp T.bl_same .nil pass0 (pa_cons (LamX.pe_lamcall (k := 32) (T := [(PL, lamQ)]) (TT := TTried X.CB) (by rfl) T.gl_tried T.Fl_tried.kp lkT hcdT hbT scl_tried rfl (Or.inl rfl) (tried_gives (Y := (cxOf C8.CX0 P w K mg base Nlaw "law" (defScope slaw) T.flaw (.ref cL) A outer s H E).nox) (k := 32) T X GC (hr.mono (by omega))) TB rfl List.mem_cons_self (fun p hp _ => by rw [List.mem_singleton.mp hp]; rfl) (hr.mono (by omega)) (LamX.lamS_by (sc := defScope slaw) (by rfl)) rfl (fun _ _ _ _ _ => rfl) (fun A1 o1 s1 H1 E1 f1 c1 hr1 => pe_call Gread_plan (hr1.mono (by omega)) (by rfl) T.gread_plan T.Fread_plan.kp T.bread_plan .nil (passes_call (takes_of rfl rfl rfl rfl) (fun _ _ _ _ h => h)) (pa_cons (pv 4) pa_nil))) (pa_cons (pe_call Gl_reading (hr.mono (by omega)) (by rfl) T.gl_reading T.Fl_reading.kp T.bl_reading .nil pass0 (pa_cons (pv 4) pa_nil)) pa_nil)))))
  (pss_one (ps_ret pe_bl))
  pss_nil)))))
 (pss_cons (ps_set (i := 3) sclaw.nd rfl (Or.inl rfl) (pe_lst (pa_cons pe_str (pa_cons pe_str (pa_cons pe_str (pa_cons pe_str (pa_cons pe_str (pa_cons (pe_op op_repS pe_str pe_int) pa_nil))))))))
 (pss_cons (ps_set (i := 3) sclaw.nd rfl (Or.inl rfl) (pe_op op_cat (pv 3) (pe_lst (pa_cons pe_str (pa_cons pe_str (pa_cons pe_str (pa_cons pe_str pa_nil)))))))
 (pss_cons (ps_for PassesOwn.never rfl (pi_list (pv 3)) (pg_name (i := 4) sclaw.nd rfl (Or.inr rfl))
  (pss_one (ps_if (pt_not (pt_val (pe_call Gl_same (hr.mono (by omega)) (by rfl) T.gl_same T.Fl_same.kp T.bl_same .nil pass0 (pa_cons (LamX.pe_lamcall (k := 32) (T := [(PL, lamQ)]) (TT := TTried X.CB) (by rfl) T.gl_tried T.Fl_tried.kp lkT hcdT hbT scl_tried rfl (Or.inl rfl) (tried_gives (Y := (cxOf C8.CX0 P w K mg base Nlaw "law" (defScope slaw) T.flaw (.ref cL) A outer s H E).nox) (k := 32) T X GC (hr.mono (by omega))) TB rfl List.mem_cons_self (fun p hp _ => by rw [List.mem_singleton.mp hp]; rfl) (hr.mono (by omega)) (LamX.lamS_by (sc := defScope slaw) (by rfl)) rfl (fun _ _ _ _ _ => rfl) (fun A1 o1 s1 H1 E1 f1 c1 hr1 => pe_call Gread_plan (hr1.mono (by omega)) (by rfl) T.gread_plan T.Fread_plan.kp T.bread_plan .nil (passes_call (takes_of rfl rfl rfl rfl) (fun _ _ _ _ h => h)) (pa_cons (pv 4) pa_nil))) (pa_cons (pe_call Gl_reading (hr.mono (by omega)) (by rfl) T.gl_reading T.Fl_reading.kp T.bl_reading .nil pass0 (pa_cons (pv 4) pa_nil)) pa_nil)))))
  (pss_one (ps_ret pe_bl))
  pss_nil)))
 (pss_one (ps_ret pe_bl))))))), ?_⟩
  refine ⟨_, rfl, a, ns, rfl, hS, fun d L H1 sm nd nL hD => ?_⟩
  have hT1 : LamX.Tabs [(PL, lamQ)] H1 := fun p hp => by
    rw [List.mem_singleton.mp hp]
    exact LamX.TabS.nil (sm _ _ hPL)
  refine ⟨10, rfl, by decide, by decide, ?_⟩
  refine for_range (n := 10) (fun i σ H' => (∃ x2 x3 x4 x5, σ = [some (.ref a), some (.ref d), x2, x3, x4, x5]) ∧ Dr H' d L ∧ LamX.Tabs [(PL, lamQ)] H') ⟨⟨_, _, _, _, rfl⟩, hD, hT1⟩ (fun i σ H2 hi hP => ?_) (fun σ H2 hP => ?_)
  · obtain ⟨⟨x2, x3, x4, x5, rfl⟩, hD2, hT2⟩ := hP
    refine ⟨_, rfl, _, rfl, d, L, 11, rfl, hD2, by decide, by decide, fun g H3 g0 g1 hD3 hB3 => ?_⟩
    have hT3 := tabs_kp hD2 hT2 (Kp.but hB3)
    obtain ⟨n, rfl⟩ : ∃ n : Nat, g = n := ⟨g.toNat, by omega⟩
    refine ⟨1, _, rfl, rfl, d, L, 1 + n, true, true, (by rw [Int.natCast_add]; rfl), hD3, by omega, by omega, fun v ts H4 hts hR hT hc hD4 G4 => ?_⟩
    have hT4 := tabs_kp hD3 hT3 (Kp.go G4)
    refine ⟨v, ts, C0, False, ["n"], rfl, hR, hT, scOk_n, by omega, fun H5 s5 => ?_⟩
    have hD5 := hD4.same s5
    have hT5 : LamX.Tabs [(PL, lamQ)] H5 := hT4.ext fun b o e => s5 b o e
    have lp := plan_size hT scOk_n
    refine ⟨_, rfl, d, L, 3, rfl, hD5, by decide, by decide, fun g H6 g0 g3 hD6 hB6 => ?_⟩
    have hT6 := tabs_kp hD5 hT5 (Kp.but hB6)
    refine ⟨1, g, rfl, rfl, 1 + g, rfl, by omega, by omega, ?_⟩
    refine for_range (n := (1 + g).toNat) (fun i σ H' => ∃ z : Str, (∃ x2 x3 x5, σ = [some (.ref a), some (.ref d), x2, x3, some (.str z), x5]) ∧ Dr H' d L ∧ LamX.Tabs [(PL, lamQ)] H' ∧ z.length ≤ bnd i) ⟨_, ⟨_, _, _, rfl⟩, hD6, hT6, ?_⟩ (fun j σ H7 hj hP => ?_) (fun σ H7 hP => ?_)
    · show ((planL ts).toArray).size ≤ 880
      rw [List.size_toArray]
      omega
    · obtain ⟨z, ⟨x2, x3, x5, rfl⟩, hD7, hT7, hz⟩ := hP
      have b2 := bnd2 (i := j) (by omega)
      refine ⟨_, rfl, _, rfl, d, L, z, rfl, hD7, by omega, fun z' H8 hz' hD8 G8 => ?_⟩
      exact ⟨z', ⟨_, _, _, rfl⟩, hD8, tabs_kp hD7 hT7 (Kp.go G8), by show z'.length ≤ 4 * bnd j + 100; omega⟩
    obtain ⟨z, ⟨x2, x3, x5, rfl⟩, hD7, hT7, hz⟩ := hP
    have b3 := bnd3 (i := (1 + g).toNat) (by omega)
    refine ⟨hT7, fun H8 eN T8 => ?_⟩
    have hD8 := dr_ext eN hD7
    refine ⟨_, rfl, z, rfl, by omega, out_tried (fun _ _ h => h) fun u H9 s9 hu => ?_⟩
    refine ⟨_, rfl, z, rfl, by omega, fun u2 H10 s10 hu2 => ?_⟩
    have hf := readAll_fit z
    refine ⟨u, u2, rfl, eq2_of 20 _ _ _ (hu.to (Imm.same s10)) hu2 hf.1 hf.2, fun H11 s11 => ?_⟩
    have sA := (s9.trans s10).trans s11
    exact ⟨true, rfl, iteF ⟨⟨_, _, _, _, rfl⟩, hD8.same sA, T8.ext fun b o e => sA b o e⟩⟩
  obtain ⟨⟨x2, x3, x4, x5, rfl⟩, hD2, hT2⟩ := hP
  -- a few texts
  refine ⟨_, 13, rfl, rfl, by decide, by decide, by decide +kernel, (by show 6 ≤ sizeLine; decide), fun l nl => ?_⟩
  have s3 := same_new (o := .lst ((fews.take 6).map V.str)) nl
  refine ⟨_, rfl, (by show 4 ≤ sizeLine; decide), fun l2 nl2 => ?_⟩
  have s4 := same_new (o := .lst ((fews.drop 6).map V.str)) nl2
  refine ⟨l, l2, _, _, rfl, rfl, s4 _ _ upd_same, upd_same, (by show 10 ≤ sizeLine; decide), fun F nF => ?_⟩
  have s5 := same_new (o := .lst (fews.map V.str)) nF
  have s35 := (s3.trans s4).trans s5
  refine ⟨_, rfl, F, rfl, ⟨_, SqL.of upd_same⟩, ?_⟩
  refine for_list (xs := fews.map V.str) (fun i σ H' => (∃ x2 x4 x5, σ = [some (.ref a), some (.ref d), x2, some (.ref F), x4, x5]) ∧ Dr H' d L ∧ LamX.Tabs [(PL, lamQ)] H' ∧ H' F = some (.lst (fews.map V.str))) ⟨⟨_, _, _, rfl⟩, hD2.same s35, hT2.ext fun b o e => s35 b o e, upd_same⟩ (fun i σ H' _ hP => SqL.of hP.2.2.2) (fun i x σ H6 hx hP => ?_) (fun σ H6 hP => ?_)
  · obtain ⟨⟨x2, x4, x5, rfl⟩, hD6, hT6, hF6⟩ := hP
    obtain ⟨z, rfl, hz⟩ := mem_strs (ns := fews) (List.mem_of_getElem? hx)
    have lz := few_len hz
    refine ⟨hT6, fun H8 eN T8 => ?_⟩
    have hD8 := dr_ext eN hD6
    have hF8 : H8 F = some (.lst (fews.map V.str)) := eN _ _ hF6 (fun ps z => by cases z)
    refine ⟨_, rfl, z, rfl, by omega, out_tried (fun _ _ h => h) fun u H9 s9 hu => ?_⟩
    refine ⟨_, rfl, z, rfl, by omega, fun u2 H10 s10 hu2 => ?_⟩
    have hf := readAll_fit z
    refine ⟨u, u2, rfl, eq2_of 20 _ _ _ (hu.to (Imm.same s10)) hu2 hf.1 hf.2, fun H11 s11 => ?_⟩
    have sA := (s9.trans s10).trans s11
    exact ⟨true, rfl, iteF ⟨⟨_, _, _, rfl⟩, hD8.same sA, T8.ext fun b o e => sA b o e, sA _ _ hF8⟩⟩
  · exact q H6
theorem lawAt {K : PySem.W.Frag} {h : Heap} {w : World} (T : Tops w K mg) (X : Exx K mg) {c Pt : Addr} (hcode : T.dlaw.code = .ref c) (hhd : PySem.W.CodeHd h c Pt) (hP : h.get? Pt = some { cls := .none, data := .fields #[] }) (nP : K.lookup Pt = none) : LamX.LawAtS PySem.Challenge.rw_outgrow_k05_texts_that_are_no_plans w K C8.CX0 50 63 "_law_script" mg T.flaw h :=
  ⟨T.dlaw, [(c, Pt)], spLawT K Pt, fun p hp => by rw [List.mem_singleton.mp hp]; exact hP, fun p hp => by rw [List.mem_singleton.mp hp]; exact nP, fun p hp => by rw [List.mem_singleton.mp hp]; exact hhd, T.blaw,
    fun H a ns hl _ hT hS => ⟨a, ns, rfl, hS, hl, hT (c, Pt) List.mem_cons_self, fun _ => rfl⟩, fun base _ _ tb => ok_lawT T X hcode (tb (c, Pt) List.mem_cons_self)⟩
end
end K05

set_option Elab.async false
set_option linter.all false
set_option maxRecDepth 100000
set_option maxHeartbeats 4000000
namespace K05
open PySem PySem.Spec PyProof.Rows L2 OG
theorem all_mk {w : World} {K : PySem.W.Frag} {h : Heap} {mg : Str → Option Value} {fa : Addr} (X : K.In h) (G : h.Ns mainGlobals mg) (hfa : mg "law" = some (.ref fa))
    {f1 : Addr} {od1 an1 : Option Addr} {sl1 : Array (Option Value)} {oc1 kV1 dc1 pm1 cd1 ct1 : Value}
    {f2 : Addr} {od2 an2 : Option Addr} {sl2 : Array (Option Value)} {oc2 kV2 dc2 pm2 cd2 ct2 : Value}
    {f3 : Addr} {od3 an3 : Option Addr} {sl3 : Array (Option Value)} {oc3 kV3 dc3 pm3 cd3 ct3 : Value}
    {f4 : Addr} {od4 an4 : Option Addr} {sl4 : Array (Option Value)} {oc4 kV4 dc4 pm4 cd4 ct4 : Value}
    {f5 : Addr} {od5 an5 : Option Addr} {sl5 : Array (Option Value)} {oc5 kV5 dc5 pm5 cd5 ct5 : Value}
    {f6 : Addr} {od6 an6 : Option Addr} {sl6 : Array (Option Value)} {oc6 kV6 dc6 pm6 cd6 ct6 : Value}
    {CReader : Addr}
    {f7 : Addr} {od7 an7 : Option Addr} {sl7 : Array (Option Value)} {oc7 kV7 dc7 pm7 cd7 ct7 : Value}
    {f8 : Addr} {od8 an8 : Option Addr} {sl8 : Array (Option Value)} {oc8 kV8 dc8 pm8 cd8 ct8 : Value}
    {f9 : Addr} {od9 an9 : Option Addr} {sl9 : Array (Option Value)} {oc9 kV9 dc9 pm9 cd9 ct9 : Value}
    {f10 : Addr} {od10 an10 : Option Addr} {sl10 : Array (Option Value)} {oc10 kV10 dc10 pm10 cd10 ct10 : Value}
    {f11 : Addr} {od11 an11 : Option Addr} {sl11 : Array (Option Value)} {oc11 kV11 dc11 pm11 cd11 ct11 : Value}
    {f12 : Addr} {od12 an12 : Option Addr} {sl12 : Array (Option Value)} {oc12 kV12 dc12 pm12 cd12 ct12 : Value}
    {f13 : Addr} {od13 an13 : Option Addr} {sl13 : Array (Option Value)} {oc13 kV13 dc13 pm13 cd13 ct13 : Value}
    {f14 : Addr} {od14 an14 : Option Addr} {sl14 : Array (Option Value)} {oc14 kV14 dc14 pm14 cd14 ct14 : Value}
    {f15 : Addr} {od15 an15 : Option Addr} {sl15 : Array (Option Value)} {oc15 kV15 dc15 pm15 cd15 ct15 : Value}
    {f16 : Addr} {od16 an16 : Option Addr} {sl16 : Array (Option Value)} {oc16 kV16 dc16 pm16 cd16 ct16 : Value}
    {f17 : Addr} {od17 an17 : Option Addr} {sl17 : Array (Option Value)} {oc17 kV17 dc17 pm17 cd17 ct17 : Value}
    {f18 : Addr} {od18 an18 : Option Addr} {sl18 : Array (Option Value)} {oc18 kV18 dc18 pm18 cd18 ct18 : Value}
    {f19 : Addr} {od19 an19 : Option Addr} {sl19 : Array (Option Value)} {oc19 kV19 dc19 pm19 cd19 ct19 : Value}
    {f20 : Addr} {od20 an20 : Option Addr} {sl20 : Array (Option Value)} {oc20 kV20 dc20 pm20 cd20 ct20 : Value}
    {f21 : Addr} {od21 an21 : Option Addr} {sl21 : Array (Option Value)} {oc21 kV21 dc21 pm21 cd21 ct21 : Value}
    {f22 : Addr} {od22 an22 : Option Addr} {sl22 : Array (Option Value)} {oc22 kV22 dc22 pm22 cd22 ct22 : Value}
    {f23 : Addr} {od23 an23 : Option Addr} {sl23 : Array (Option Value)} {oc23 kV23 dc23 pm23 cd23 ct23 : Value}
    {f24 : Addr} {od24 an24 : Option Addr} {sl24 : Array (Option Value)} {oc24 kV24 dc24 pm24 cd24 ct24 : Value}
    {f25 : Addr} {od25 an25 : Option Addr} {sl25 : Array (Option Value)} {oc25 kV25 dc25 pm25 cd25 ct25 : Value}
    {f26 : Addr} {od26 an26 : Option Addr} {sl26 : Array (Option Value)} {oc26 kV26 dc26 pm26 cd26 ct26 : Value}
    {f27 : Addr} {od27 an27 : Option Addr} {sl27 : Array (Option Value)} {oc27 kV27 dc27 pm27 cd27 ct27 : Value}
    {f28 : Addr} {od28 an28 : Option Addr} {sl28 : Array (Option Value)} {oc28 kV28 dc28 pm28 cd28 ct28 : Value}
    {f29 : Addr} {od29 an29 : Option Addr} {sl29 : Array (Option Value)} {oc29 kV29 dc29 pm29 cd29 ct29 : Value}
    {f30 : Addr} {od30 an30 : Option Addr} {sl30 : Array (Option Value)} {oc30 kV30 dc30 pm30 cd30 ct30 : Value}
    {f31 : Addr} {od31 an31 : Option Addr} {sl31 : Array (Option Value)} {oc31 kV31 dc31 pm31 cd31 ct31 : Value}
    {f32 : Addr} {od32 an32 : Option Addr} {sl32 : Array (Option Value)} {oc32 kV32 dc32 pm32 cd32 ct32 : Value}
    {f33 : Addr} {od33 an33 : Option Addr} {sl33 : Array (Option Value)} {oc33 kV33 dc33 pm33 cd33 ct33 : Value}
    {f34 : Addr} {od34 an34 : Option Addr} {sl34 : Array (Option Value)} {oc34 kV34 dc34 pm34 cd34 ct34 : Value}
    {f35 : Addr} {od35 an35 : Option Addr} {sl35 : Array (Option Value)} {oc35 kV35 dc35 pm35 cd35 ct35 : Value}
    {f36 : Addr} {od36 an36 : Option Addr} {sl36 : Array (Option Value)} {oc36 kV36 dc36 pm36 cd36 ct36 : Value}
    {f37 : Addr} {od37 an37 : Option Addr} {sl37 : Array (Option Value)} {oc37 kV37 dc37 pm37 cd37 ct37 : Value}
    {f38 : Addr} {od38 an38 : Option Addr} {sl38 : Array (Option Value)} {oc38 kV38 dc38 pm38 cd38 ct38 : Value}
    {f39 : Addr} {od39 an39 : Option Addr} {sl39 : Array (Option Value)} {oc39 kV39 dc39 pm39 cd39 ct39 : Value}
    {f40 : Addr} {od40 an40 : Option Addr} {sl40 : Array (Option Value)} {oc40 kV40 dc40 pm40 cd40 ct40 : Value}
    {f41 : Addr} {od41 an41 : Option Addr} {sl41 : Array (Option Value)} {oc41 kV41 dc41 pm41 cd41 ct41 : Value}
    {f42 : Addr} {od42 an42 : Option Addr} {sl42 : Array (Option Value)} {oc42 kV42 dc42 pm42 cd42 ct42 : Value}
    {f43 : Addr} {od43 an43 : Option Addr} {sl43 : Array (Option Value)} {oc43 kV43 dc43 pm43 cd43 ct43 : Value}
    {f44 : Addr} {od44 an44 : Option Addr} {sl44 : Array (Option Value)} {oc44 kV44 dc44 pm44 cd44 ct44 : Value}
    {f45 : Addr} {od45 an45 : Option Addr} {sl45 : Array (Option Value)} {oc45 kV45 dc45 pm45 cd45 ct45 : Value}
    {f46 : Addr} {od46 an46 : Option Addr} {sl46 : Array (Option Value)} {oc46 kV46 dc46 pm46 cd46 ct46 : Value}
    {f47 : Addr} {od47 an47 : Option Addr} {sl47 : Array (Option Value)} {oc47 kV47 dc47 pm47 cd47 ct47 : Value}
    {f48 : Addr} {od48 an48 : Option Addr} {sl48 : Array (Option Value)} {oc48 kV48 dc48 pm48 cd48 ct48 : Value}
    {f49 : Addr} {od49 an49 : Option Addr} {sl49 : Array (Option Value)} {oc49 kV49 dc49 pm49 cd49 ct49 : Value}
    {f50 : Addr} {od50 an50 : Option Addr} {sl50 : Array (Option Value)} {oc50 kV50 dc50 pm50 cd50 ct50 : Value}
    {f51 : Addr} {od51 an51 : Option Addr} {sl51 : Array (Option Value)} {oc51 kV51 dc51 pm51 cd51 ct51 : Value}
    {f52 : Addr} {od52 an52 : Option Addr} {sl52 : Array (Option Value)} {oc52 kV52 dc52 pm52 cd52 ct52 : Value}
    {vt1 : Tok}
    {vt2 : Tok}
    {vt3 : Tok}
    {vt4 : Tok}
    {vt5 : Tok}
    {vt6 : Tok}
    {vt7 : Tok}
    {vt8 : Tok}
    {va9 : Addr} {vd9 : Option Addr} {vn9 : Nat} {vs9 : Array (Option Value)} {vt9_0 vt9_1 vt9_2 vt9_3 vt9_4 vt9_5 vt9_6 vt9_7 vt9_8 vt9_9 vt9_10 vt9_11 vt9_12 vt9_13 vt9_14 : Tok}
    {vt10 : Tok}
    (a1 : PySem.W.nsIn K mainGlobals "is_name" = some (some (.ref f1))) (l1 : K.lookup f1 = some ⟨oc1, od1, .func (PySem.W.fnOf "is_name" "is_name" (defArgs sis_name) (defBody sis_name) (defScope sis_name) .none kV1 dc1 pm1 an1 cd1 ct1), sl1⟩) (c1 : PySem.W.codeIn K cd1 "is_name" = true) (k1 : PySem.W.keepIn K (.ref f1) = true)
    (a2 : PySem.W.nsIn K mainGlobals "run_end" = some (some (.ref f2))) (l2 : K.lookup f2 = some ⟨oc2, od2, .func (PySem.W.fnOf "run_end" "run_end" (defArgs srun_end) (defBody srun_end) (defScope srun_end) .none kV2 dc2 pm2 an2 cd2 ct2), sl2⟩) (c2 : PySem.W.codeIn K cd2 "run_end" = true) (k2 : PySem.W.keepIn K (.ref f2) = true)
    (a3 : PySem.W.nsIn K mainGlobals "word_end" = some (some (.ref f3))) (l3 : K.lookup f3 = some ⟨oc3, od3, .func (PySem.W.fnOf "word_end" "word_end" (defArgs sword_end) (defBody sword_end) (defScope sword_end) .none kV3 dc3 pm3 an3 cd3 ct3), sl3⟩) (c3 : PySem.W.codeIn K cd3 "word_end" = true) (k3 : PySem.W.keepIn K (.ref f3) = true)
    (a4 : PySem.W.nsIn K mainGlobals "number_end" = some (some (.ref f4))) (l4 : K.lookup f4 = some ⟨oc4, od4, .func (PySem.W.fnOf "number_end" "number_end" (defArgs snumber_end) (defBody snumber_end) (defScope snumber_end) .none kV4 dc4 pm4 an4 cd4 ct4), sl4⟩) (c4 : PySem.W.codeIn K cd4 "number_end" = true) (k4 : PySem.W.keepIn K (.ref f4) = true)
    (a5 : PySem.W.nsIn K mainGlobals "sign_end" = some (some (.ref f5))) (l5 : K.lookup f5 = some ⟨oc5, od5, .func (PySem.W.fnOf "sign_end" "sign_end" (defArgs ssign_end) (defBody ssign_end) (defScope ssign_end) .none kV5 dc5 pm5 an5 cd5 ct5), sl5⟩) (c5 : PySem.W.codeIn K cd5 "sign_end" = true) (k5 : PySem.W.keepIn K (.ref f5) = true)
    (a6 : PySem.W.nsIn K mainGlobals "signs_of" = some (some (.ref f6))) (l6 : K.lookup f6 = some ⟨oc6, od6, .func (PySem.W.fnOf "signs_of" "signs_of" (defArgs ssigns_of) (defBody ssigns_of) (defScope ssigns_of) .none kV6 dc6 pm6 an6 cd6 ct6), sl6⟩) (c6 : PySem.W.codeIn K cd6 "signs_of" = true) (k6 : PySem.W.keepIn K (.ref f6) = true)
    (aCReader : PySem.W.nsIn K mainGlobals "Reader" = some (some (.ref CReader))) (pgReader : PySem.W.plainGet K CReader Str.empty = true) (hdReader : PySem.W.hasDictIn K CReader = true) (poReader : PySem.W.plainOver K CReader = true) (saReader : PySem.W.findIn K (.ref CReader) "__setattr__" = some (some (.builtin "object.__setattr__"))) (mkReader : PySem.W.makesIn K CReader = true) (kcReader : PySem.W.keepIn K (.ref CReader) = true)
    (naReader_0 : PySem.W.findIn K (.ref CReader) "signs" = some none)
    (naReader_1 : PySem.W.findIn K (.ref CReader) "place" = some none)
    (naReader_2 : PySem.W.findIn K (.ref CReader) "things" = some none)
    (naReader_3 : PySem.W.findIn K (.ref CReader) "depth" = some none)
    (a7 : PySem.W.findIn K (.ref CReader) "__init__" = some (some (.ref f7))) (i7 : PySem.W.isFn K (.ref f7) = true) (l7 : K.lookup f7 = some ⟨oc7, od7, .func (PySem.W.fnOf "__init__" "Reader.__init__" (defArgs sReader___init__) (defBody sReader___init__) (defScope sReader___init__) .none kV7 dc7 pm7 an7 cd7 ct7), sl7⟩) (c7 : PySem.W.codeIn K cd7 "Reader.__init__" = true) (k7 : PySem.W.keepIn K (.ref f7) = true)
    (a8 : PySem.W.findIn K (.ref CReader) "sign" = some (some (.ref f8))) (i8 : PySem.W.isFn K (.ref f8) = true) (l8 : K.lookup f8 = some ⟨oc8, od8, .func (PySem.W.fnOf "sign" "Reader.sign" (defArgs sReader_sign) (defBody sReader_sign) (defScope sReader_sign) .none kV8 dc8 pm8 an8 cd8 ct8), sl8⟩) (c8 : PySem.W.codeIn K cd8 "Reader.sign" = true) (k8 : PySem.W.keepIn K (.ref f8) = true)
    (a9 : PySem.W.findIn K (.ref CReader) "spot" = some (some (.ref f9))) (i9 : PySem.W.isFn K (.ref f9) = true) (l9 : K.lookup f9 = some ⟨oc9, od9, .func (PySem.W.fnOf "spot" "Reader.spot" (defArgs sReader_spot) (defBody sReader_spot) (defScope sReader_spot) .none kV9 dc9 pm9 an9 cd9 ct9), sl9⟩) (c9 : PySem.W.codeIn K cd9 "Reader.spot" = true) (k9 : PySem.W.keepIn K (.ref f9) = true)
    (a10 : PySem.W.findIn K (.ref CReader) "take_if" = some (some (.ref f10))) (i10 : PySem.W.isFn K (.ref f10) = true) (l10 : K.lookup f10 = some ⟨oc10, od10, .func (PySem.W.fnOf "take_if" "Reader.take_if" (defArgs sReader_take_if) (defBody sReader_take_if) (defScope sReader_take_if) .none kV10 dc10 pm10 an10 cd10 ct10), sl10⟩) (c10 : PySem.W.codeIn K cd10 "Reader.take_if" = true) (k10 : PySem.W.keepIn K (.ref f10) = true)
    (a11 : PySem.W.findIn K (.ref CReader) "take" = some (some (.ref f11))) (i11 : PySem.W.isFn K (.ref f11) = true) (l11 : K.lookup f11 = some ⟨oc11, od11, .func (PySem.W.fnOf "take" "Reader.take" (defArgs sReader_take) (defBody sReader_take) (defScope sReader_take) .none kV11 dc11 pm11 an11 cd11 ct11), sl11⟩) (c11 : PySem.W.codeIn K cd11 "Reader.take" = true) (k11 : PySem.W.keepIn K (.ref f11) = true)
    (a12 : PySem.W.findIn K (.ref CReader) "take_name" = some (some (.ref f12))) (i12 : PySem.W.isFn K (.ref f12) = true) (l12 : K.lookup f12 = some ⟨oc12, od12, .func (PySem.W.fnOf "take_name" "Reader.take_name" (defArgs sReader_take_name) (defBody sReader_take_name) (defScope sReader_take_name) .none kV12 dc12 pm12 an12 cd12 ct12), sl12⟩) (c12 : PySem.W.codeIn K cd12 "Reader.take_name" = true) (k12 : PySem.W.keepIn K (.ref f12) = true)
    (a13 : PySem.W.findIn K (.ref CReader) "take_number" = some (some (.ref f13))) (i13 : PySem.W.isFn K (.ref f13) = true) (l13 : K.lookup f13 = some ⟨oc13, od13, .func (PySem.W.fnOf "take_number" "Reader.take_number" (defArgs sReader_take_number) (defBody sReader_take_number) (defScope sReader_take_number) .none kV13 dc13 pm13 an13 cd13 ct13), sl13⟩) (c13 : PySem.W.codeIn K cd13 "Reader.take_number" = true) (k13 : PySem.W.keepIn K (.ref f13) = true)
    (a14 : PySem.W.nsIn K mainGlobals "read_plan" = some (some (.ref f14))) (l14 : K.lookup f14 = some ⟨oc14, od14, .func (PySem.W.fnOf "read_plan" "read_plan" (defArgs sread_plan) (defBody sread_plan) (defScope sread_plan) .none kV14 dc14 pm14 an14 cd14 ct14), sl14⟩) (c14 : PySem.W.codeIn K cd14 "read_plan" = true) (k14 : PySem.W.keepIn K (.ref f14) = true)
    (a15 : PySem.W.nsIn K mainGlobals "read_body" = some (some (.ref f15))) (l15 : K.lookup f15 = some ⟨oc15, od15, .func (PySem.W.fnOf "read_body" "read_body" (defArgs sread_body) (defBody sread_body) (defScope sread_body) .none kV15 dc15 pm15 an15 cd15 ct15), sl15⟩) (c15 : PySem.W.codeIn K cd15 "read_body" = true) (k15 : PySem.W.keepIn K (.ref f15) = true)
    (a16 : PySem.W.nsIn K mainGlobals "read_thing" = some (some (.ref f16))) (l16 : K.lookup f16 = some ⟨oc16, od16, .func (PySem.W.fnOf "read_thing" "read_thing" (defArgs sread_thing) (defBody sread_thing) (defScope sread_thing) .none kV16 dc16 pm16 an16 cd16 ct16), sl16⟩) (c16 : PySem.W.codeIn K cd16 "read_thing" = true) (k16 : PySem.W.keepIn K (.ref f16) = true)
    (a17 : PySem.W.nsIn K mainGlobals "read_bracket" = some (some (.ref f17))) (l17 : K.lookup f17 = some ⟨oc17, od17, .func (PySem.W.fnOf "read_bracket" "read_bracket" (defArgs sread_bracket) (defBody sread_bracket) (defScope sread_bracket) .none kV17 dc17 pm17 an17 cd17 ct17), sl17⟩) (c17 : PySem.W.codeIn K cd17 "read_bracket" = true) (k17 : PySem.W.keepIn K (.ref f17) = true)
    (a18 : PySem.W.nsIn K mainGlobals "read_end" = some (some (.ref f18))) (l18 : K.lookup f18 = some ⟨oc18, od18, .func (PySem.W.fnOf "read_end" "read_end" (defArgs sread_end) (defBody sread_end) (defScope sread_end) .none kV18 dc18 pm18 an18 cd18 ct18), sl18⟩) (c18 : PySem.W.codeIn K cd18 "read_end" = true) (k18 : PySem.W.keepIn K (.ref f18) = true)
    (a19 : PySem.W.nsIn K mainGlobals "read_step" = some (some (.ref f19))) (l19 : K.lookup f19 = some ⟨oc19, od19, .func (PySem.W.fnOf "read_step" "read_step" (defArgs sread_step) (defBody sread_step) (defScope sread_step) .none kV19 dc19 pm19 an19 cd19 ct19), sl19⟩) (c19 : PySem.W.codeIn K cd19 "read_step" = true) (k19 : PySem.W.keepIn K (.ref f19) = true)
    (a20 : PySem.W.nsIn K mainGlobals "read_for" = some (some (.ref f20))) (l20 : K.lookup f20 = some ⟨oc20, od20, .func (PySem.W.fnOf "read_for" "read_for" (defArgs sread_for) (defBody sread_for) (defScope sread_for) .none kV20 dc20 pm20 an20 cd20 ct20), sl20⟩) (c20 : PySem.W.codeIn K cd20 "read_for" = true) (k20 : PySem.W.keepIn K (.ref f20) = true)
    (a21 : PySem.W.nsIn K mainGlobals "read_if" = some (some (.ref f21))) (l21 : K.lookup f21 = some ⟨oc21, od21, .func (PySem.W.fnOf "read_if" "read_if" (defArgs sread_if) (defBody sread_if) (defScope sread_if) .none kV21 dc21 pm21 an21 cd21 ct21), sl21⟩) (c21 : PySem.W.codeIn K cd21 "read_if" = true) (k21 : PySem.W.keepIn K (.ref f21) = true)
    (a22 : PySem.W.nsIn K mainGlobals "read_double" = some (some (.ref f22))) (l22 : K.lookup f22 = some ⟨oc22, od22, .func (PySem.W.fnOf "read_double" "read_double" (defArgs sread_double) (defBody sread_double) (defScope sread_double) .none kV22 dc22 pm22 an22 cd22 ct22), sl22⟩) (c22 : PySem.W.codeIn K cd22 "read_double" = true) (k22 : PySem.W.keepIn K (.ref f22) = true)
    (a23 : PySem.W.nsIn K mainGlobals "read_call" = some (some (.ref f23))) (l23 : K.lookup f23 = some ⟨oc23, od23, .func (PySem.W.fnOf "read_call" "read_call" (defArgs sread_call) (defBody sread_call) (defScope sread_call) .none kV23 dc23 pm23 an23 cd23 ct23), sl23⟩) (c23 : PySem.W.codeIn K cd23 "read_call" = true) (k23 : PySem.W.keepIn K (.ref f23) = true)
    (a24 : PySem.W.nsIn K mainGlobals "read_again" = some (some (.ref f24))) (l24 : K.lookup f24 = some ⟨oc24, od24, .func (PySem.W.fnOf "read_again" "read_again" (defArgs sread_again) (defBody sread_again) (defScope sread_again) .none kV24 dc24 pm24 an24 cd24 ct24), sl24⟩) (c24 : PySem.W.codeIn K cd24 "read_again" = true) (k24 : PySem.W.keepIn K (.ref f24) = true)
    (a25 : PySem.W.nsIn K mainGlobals "_law_begin" = some (some (.ref f25))) (l25 : K.lookup f25 = some ⟨oc25, od25, .func (PySem.W.fnOf "_law_begin" "_law_begin" (defArgs sl_begin) (defBody sl_begin) (defScope sl_begin) .none kV25 dc25 pm25 an25 cd25 ct25), sl25⟩) (c25 : PySem.W.codeIn K cd25 "_law_begin" = true) (k25 : PySem.W.keepIn K (.ref f25) = true)
    (a26 : PySem.W.nsIn K mainGlobals "_law_end_text" = some (some (.ref f26))) (l26 : K.lookup f26 = some ⟨oc26, od26, .func (PySem.W.fnOf "_law_end_text" "_law_end_text" (defArgs sl_end_text) (defBody sl_end_text) (defScope sl_end_text) .none kV26 dc26 pm26 an26 cd26 ct26), sl26⟩) (c26 : PySem.W.codeIn K cd26 "_law_end_text" = true) (k26 : PySem.W.keepIn K (.ref f26) = true)
    (a27 : PySem.W.nsIn K mainGlobals "_law_thing_text" = some (some (.ref f27))) (l27 : K.lookup f27 = some ⟨oc27, od27, .func (PySem.W.fnOf "_law_thing_text" "_law_thing_text" (defArgs sl_thing_text) (defBody sl_thing_text) (defScope sl_thing_text) .none kV27 dc27 pm27 an27 cd27 ct27), sl27⟩) (c27 : PySem.W.codeIn K cd27 "_law_thing_text" = true) (k27 : PySem.W.keepIn K (.ref f27) = true)
    (a28 : PySem.W.nsIn K mainGlobals "_law_written" = some (some (.ref f28))) (l28 : K.lookup f28 = some ⟨oc28, od28, .func (PySem.W.fnOf "_law_written" "_law_written" (defArgs sl_written) (defBody sl_written) (defScope sl_written) .none kV28 dc28 pm28 an28 cd28 ct28), sl28⟩) (c28 : PySem.W.codeIn K cd28 "_law_written" = true) (k28 : PySem.W.keepIn K (.ref f28) = true)
    (a29 : PySem.W.nsIn K mainGlobals "_law_take" = some (some (.ref f29))) (l29 : K.lookup f29 = some ⟨oc29, od29, .func (PySem.W.fnOf "_law_take" "_law_take" (defArgs sl_take) (defBody sl_take) (defScope sl_take) .none kV29 dc29 pm29 an29 cd29 ct29), sl29⟩) (c29 : PySem.W.codeIn K cd29 "_law_take" = true) (k29 : PySem.W.keepIn K (.ref f29) = true)
    (a30 : PySem.W.nsIn K mainGlobals "_law_pick" = some (some (.ref f30))) (l30 : K.lookup f30 = some ⟨oc30, od30, .func (PySem.W.fnOf "_law_pick" "_law_pick" (defArgs sl_pick) (defBody sl_pick) (defScope sl_pick) .none kV30 dc30 pm30 an30 cd30 ct30), sl30⟩) (c30 : PySem.W.codeIn K cd30 "_law_pick" = true) (k30 : PySem.W.keepIn K (.ref f30) = true)
    (a31 : PySem.W.nsIn K mainGlobals "_law_some_end" = some (some (.ref f31))) (l31 : K.lookup f31 = some ⟨oc31, od31, .func (PySem.W.fnOf "_law_some_end" "_law_some_end" (defArgs sl_some_end) (defBody sl_some_end) (defScope sl_some_end) .none kV31 dc31 pm31 an31 cd31 ct31), sl31⟩) (c31 : PySem.W.codeIn K cd31 "_law_some_end" = true) (k31 : PySem.W.keepIn K (.ref f31) = true)
    (a32 : PySem.W.nsIn K mainGlobals "_law_leaf" = some (some (.ref f32))) (l32 : K.lookup f32 = some ⟨oc32, od32, .func (PySem.W.fnOf "_law_leaf" "_law_leaf" (defArgs sl_leaf) (defBody sl_leaf) (defScope sl_leaf) .none kV32 dc32 pm32 an32 cd32 ct32), sl32⟩) (c32 : PySem.W.codeIn K cd32 "_law_leaf" = true) (k32 : PySem.W.keepIn K (.ref f32) = true)
    (a33 : PySem.W.nsIn K mainGlobals "_law_kept_words" = some (some (.ref f33))) (l33 : K.lookup f33 = some ⟨oc33, od33, .func (PySem.W.fnOf "_law_kept_words" "_law_kept_words" (defArgs sl_kept_words) (defBody sl_kept_words) (defScope sl_kept_words) .none kV33 dc33 pm33 an33 cd33 ct33), sl33⟩) (c33 : PySem.W.codeIn K cd33 "_law_kept_words" = true) (k33 : PySem.W.keepIn K (.ref f33) = true)
    (a34 : PySem.W.nsIn K mainGlobals "_law_fresh" = some (some (.ref f34))) (l34 : K.lookup f34 = some ⟨oc34, od34, .func (PySem.W.fnOf "_law_fresh" "_law_fresh" (defArgs sl_fresh) (defBody sl_fresh) (defScope sl_fresh) .none kV34 dc34 pm34 an34 cd34 ct34), sl34⟩) (c34 : PySem.W.codeIn K cd34 "_law_fresh" = true) (k34 : PySem.W.keepIn K (.ref f34) = true)
    (a35 : PySem.W.nsIn K mainGlobals "_law_drawn_thing" = some (some (.ref f35))) (l35 : K.lookup f35 = some ⟨oc35, od35, .func (PySem.W.fnOf "_law_drawn_thing" "_law_drawn_thing" (defArgs sl_drawn_thing) (defBody sl_drawn_thing) (defScope sl_drawn_thing) .none kV35 dc35 pm35 an35 cd35 ct35), sl35⟩) (c35 : PySem.W.codeIn K cd35 "_law_drawn_thing" = true) (k35 : PySem.W.keepIn K (.ref f35) = true)
    (a36 : PySem.W.nsIn K mainGlobals "_law_drawn_body" = some (some (.ref f36))) (l36 : K.lookup f36 = some ⟨oc36, od36, .func (PySem.W.fnOf "_law_drawn_body" "_law_drawn_body" (defArgs sl_drawn_body) (defBody sl_drawn_body) (defScope sl_drawn_body) .none kV36 dc36 pm36 an36 cd36 ct36), sl36⟩) (c36 : PySem.W.codeIn K cd36 "_law_drawn_body" = true) (k36 : PySem.W.keepIn K (.ref f36) = true)
    (a37 : PySem.W.nsIn K mainGlobals "_law_drawn" = some (some (.ref f37))) (l37 : K.lookup f37 = some ⟨oc37, od37, .func (PySem.W.fnOf "_law_drawn" "_law_drawn" (defArgs sl_drawn) (defBody sl_drawn) (defScope sl_drawn) .none kV37 dc37 pm37 an37 cd37 ct37), sl37⟩) (c37 : PySem.W.codeIn K cd37 "_law_drawn" = true) (k37 : PySem.W.keepIn K (.ref f37) = true)
    (a38 : PySem.W.nsIn K mainGlobals "_law_spoilt_text" = some (some (.ref f38))) (l38 : K.lookup f38 = some ⟨oc38, od38, .func (PySem.W.fnOf "_law_spoilt_text" "_law_spoilt_text" (defArgs sl_spoilt_text) (defBody sl_spoilt_text) (defScope sl_spoilt_text) .none kV38 dc38 pm38 an38 cd38 ct38), sl38⟩) (c38 : PySem.W.codeIn K cd38 "_law_spoilt_text" = true) (k38 : PySem.W.keepIn K (.ref f38) = true)
    (a39 : PySem.W.nsIn K mainGlobals "_law_same" = some (some (.ref f39))) (l39 : K.lookup f39 = some ⟨oc39, od39, .func (PySem.W.fnOf "_law_same" "_law_same" (defArgs sl_same) (defBody sl_same) (defScope sl_same) .none kV39 dc39 pm39 an39 cd39 ct39), sl39⟩) (c39 : PySem.W.codeIn K cd39 "_law_same" = true) (k39 : PySem.W.keepIn K (.ref f39) = true)
    (a40 : PySem.W.nsIn K mainGlobals "_law_class" = some (some (.ref f40))) (l40 : K.lookup f40 = some ⟨oc40, od40, .func (PySem.W.fnOf "_law_class" "_law_class" (defArgs sl_class) (defBody sl_class) (defScope sl_class) .none kV40 dc40 pm40 an40 cd40 ct40), sl40⟩) (c40 : PySem.W.codeIn K cd40 "_law_class" = true) (k40 : PySem.W.keepIn K (.ref f40) = true)
    (a41 : PySem.W.nsIn K mainGlobals "_law_tried" = some (some (.ref f41))) (l41 : K.lookup f41 = some ⟨oc41, od41, .func (PySem.W.fnOf "_law_tried" "_law_tried" (defArgs sl_tried) (defBody sl_tried) (defScope sl_tried) .none kV41 dc41 pm41 an41 cd41 ct41), sl41⟩) (c41 : PySem.W.codeIn K cd41 "_law_tried" = true) (k41 : PySem.W.keepIn K (.ref f41) = true)
    (a42 : PySem.W.nsIn K mainGlobals "_law_cut_up" = some (some (.ref f42))) (l42 : K.lookup f42 = some ⟨oc42, od42, .func (PySem.W.fnOf "_law_cut_up" "_law_cut_up" (defArgs sl_cut_up) (defBody sl_cut_up) (defScope sl_cut_up) .none kV42 dc42 pm42 an42 cd42 ct42), sl42⟩) (c42 : PySem.W.codeIn K cd42 "_law_cut_up" = true) (k42 : PySem.W.keepIn K (.ref f42) = true)
    (a43 : PySem.W.nsIn K mainGlobals "_law_figure" = some (some (.ref f43))) (l43 : K.lookup f43 = some ⟨oc43, od43, .func (PySem.W.fnOf "_law_figure" "_law_figure" (defArgs sl_figure) (defBody sl_figure) (defScope sl_figure) .none kV43 dc43 pm43 an43 cd43 ct43), sl43⟩) (c43 : PySem.W.codeIn K cd43 "_law_figure" = true) (k43 : PySem.W.keepIn K (.ref f43) = true)
    (a44 : PySem.W.nsIn K mainGlobals "_law_is_name" = some (some (.ref f44))) (l44 : K.lookup f44 = some ⟨oc44, od44, .func (PySem.W.fnOf "_law_is_name" "_law_is_name" (defArgs sl_is_name) (defBody sl_is_name) (defScope sl_is_name) .none kV44 dc44 pm44 an44 cd44 ct44), sl44⟩) (c44 : PySem.W.codeIn K cd44 "_law_is_name" = true) (k44 : PySem.W.keepIn K (.ref f44) = true)
    (a45 : PySem.W.nsIn K mainGlobals "_law_read_end" = some (some (.ref f45))) (l45 : K.lookup f45 = some ⟨oc45, od45, .func (PySem.W.fnOf "_law_read_end" "_law_read_end" (defArgs sl_read_end) (defBody sl_read_end) (defScope sl_read_end) .none kV45 dc45 pm45 an45 cd45 ct45), sl45⟩) (c45 : PySem.W.codeIn K cd45 "_law_read_end" = true) (k45 : PySem.W.keepIn K (.ref f45) = true)
    (a46 : PySem.W.nsIn K mainGlobals "_law_read_leaf" = some (some (.ref f46))) (l46 : K.lookup f46 = some ⟨oc46, od46, .func (PySem.W.fnOf "_law_read_leaf" "_law_read_leaf" (defArgs sl_read_leaf) (defBody sl_read_leaf) (defScope sl_read_leaf) .none kV46 dc46 pm46 an46 cd46 ct46), sl46⟩) (c46 : PySem.W.codeIn K cd46 "_law_read_leaf" = true) (k46 : PySem.W.keepIn K (.ref f46) = true)
    (a47 : PySem.W.nsIn K mainGlobals "_law_read_ends" = some (some (.ref f47))) (l47 : K.lookup f47 = some ⟨oc47, od47, .func (PySem.W.fnOf "_law_read_ends" "_law_read_ends" (defArgs sl_read_ends) (defBody sl_read_ends) (defScope sl_read_ends) .none kV47 dc47 pm47 an47 cd47 ct47), sl47⟩) (c47 : PySem.W.codeIn K cd47 "_law_read_ends" = true) (k47 : PySem.W.keepIn K (.ref f47) = true)
    (a48 : PySem.W.nsIn K mainGlobals "_law_read_bracket" = some (some (.ref f48))) (l48 : K.lookup f48 = some ⟨oc48, od48, .func (PySem.W.fnOf "_law_read_bracket" "_law_read_bracket" (defArgs sl_read_bracket) (defBody sl_read_bracket) (defScope sl_read_bracket) .none kV48 dc48 pm48 an48 cd48 ct48), sl48⟩) (c48 : PySem.W.codeIn K cd48 "_law_read_bracket" = true) (k48 : PySem.W.keepIn K (.ref f48) = true)
    (a49 : PySem.W.nsIn K mainGlobals "_law_read_thing" = some (some (.ref f49))) (l49 : K.lookup f49 = some ⟨oc49, od49, .func (PySem.W.fnOf "_law_read_thing" "_law_read_thing" (defArgs sl_read_thing) (defBody sl_read_thing) (defScope sl_read_thing) .none kV49 dc49 pm49 an49 cd49 ct49), sl49⟩) (c49 : PySem.W.codeIn K cd49 "_law_read_thing" = true) (k49 : PySem.W.keepIn K (.ref f49) = true)
    (a50 : PySem.W.nsIn K mainGlobals "_law_read_body" = some (some (.ref f50))) (l50 : K.lookup f50 = some ⟨oc50, od50, .func (PySem.W.fnOf "_law_read_body" "_law_read_body" (defArgs sl_read_body) (defBody sl_read_body) (defScope sl_read_body) .none kV50 dc50 pm50 an50 cd50 ct50), sl50⟩) (c50 : PySem.W.codeIn K cd50 "_law_read_body" = true) (k50 : PySem.W.keepIn K (.ref f50) = true)
    (a51 : PySem.W.nsIn K mainGlobals "_law_reading" = some (some (.ref f51))) (l51 : K.lookup f51 = some ⟨oc51, od51, .func (PySem.W.fnOf "_law_reading" "_law_reading" (defArgs sl_reading) (defBody sl_reading) (defScope sl_reading) .none kV51 dc51 pm51 an51 cd51 ct51), sl51⟩) (c51 : PySem.W.codeIn K cd51 "_law_reading" = true) (k51 : PySem.W.keepIn K (.ref f51) = true)
    (a52 : PySem.W.nsIn K mainGlobals "law" = some (some (.ref f52))) (l52 : K.lookup f52 = some ⟨oc52, od52, .func (PySem.W.fnOf "law" "law" (defArgs slaw) (defBody slaw) (defScope slaw) .none kV52 dc52 pm52 an52 cd52 ct52), sl52⟩) (c52 : PySem.W.codeIn K cd52 "law" = true) (k52 : PySem.W.keepIn K (.ref f52) = true)
    (z1 : PySem.W.nsIn K mainGlobals "abs" = some none)
    (z2 : PySem.W.nsIn K mainGlobals "all" = some none)
    (z3 : PySem.W.nsIn K mainGlobals "bool" = some none)
    (z4 : PySem.W.nsIn K mainGlobals "int" = some none)
    (z5 : PySem.W.nsIn K mainGlobals "isinstance" = some none)
    (z6 : PySem.W.nsIn K mainGlobals "len" = some none)
    (z7 : PySem.W.nsIn K mainGlobals "list" = some none)
    (z8 : PySem.W.nsIn K mainGlobals "min" = some none)
    (z9 : PySem.W.nsIn K mainGlobals "range" = some none)
    (z10 : PySem.W.nsIn K mainGlobals "read_rest" = some none)
    (z11 : PySem.W.nsIn K mainGlobals "sorted" = some none)
    (z12 : PySem.W.nsIn K mainGlobals "str" = some none)
    (z13 : PySem.W.nsIn K mainGlobals "tuple" = some none)
    (z14 : PySem.W.nsIn K mainGlobals "zip" = some none)
    (v1 : PySem.W.nsIn K mainGlobals "MOST_LETTERS" = some (some (.int 8 vt1)))
    (v2 : PySem.W.nsIn K mainGlobals "MOST_NUMBER_FIGURES" = some (some (.int 2 vt2)))
    (v3 : PySem.W.nsIn K mainGlobals "MOST_NUMBER" = some (some (.int 99 vt3)))
    (v4 : PySem.W.nsIn K mainGlobals "MOST_AGAIN" = some (some (.int 9 vt4)))
    (v5 : PySem.W.nsIn K mainGlobals "MOST_THINGS" = some (some (.int 12 vt5)))
    (v6 : PySem.W.nsIn K mainGlobals "MOST_BRACKETS" = some (some (.int 4 vt6)))
    (v7 : PySem.W.nsIn K mainGlobals "LETTERS" = some (some (.str "abcdefghijklmnopqrstuvwxyz" vt7)))
    (v8 : PySem.W.nsIn K mainGlobals "FIGURES" = some (some (.str "0123456789" vt8)))
    (v9 : PySem.W.nsIn K mainGlobals "NO_NAMES" = some (some (.ref va9))) (w9 : K.lookup va9 = some ⟨.type "tuple", vd9, .seq #[.str "step" vt9_0, .str "for" vt9_1, .str "from" vt9_2, .str "to" vt9_3, .str "if" vt9_4, .str "else" vt9_5, .str "double" vt9_6, .str "call" vt9_7, .str "with" vt9_8, .str "again" vt9_9, .str "on" vt9_10, .str "halves" vt9_11, .str "thirds" vt9_12, .str "less" vt9_13, .str "n" vt9_14] vn9, vs9⟩)
    (v10 : PySem.W.nsIn K mainGlobals "SINGLE_SIGNS" = some (some (.str "();+-" vt10)))
    {da1 : Addr} {de1 : Array DictEntry} {dn1 : Nat} (dv1 : PySem.W.nsIn K mainGlobals "READERS" = some (some (.ref da1))) (dl1 : K.lookup da1 = some ⟨.type "dict", none, .dict de1 dn1, #[]⟩) (dk1 : PySem.W.KeysLit w.params de1.toList) (dw1 : (da1 == sysModules) = false)
    (dx1_0 : PySem.W.nsIn K da1 "step" = some (some (.ref f19)))
    (dx1_1 : PySem.W.nsIn K da1 "for" = some (some (.ref f20)))
    (dx1_2 : PySem.W.nsIn K da1 "if" = some (some (.ref f21)))
    (dx1_3 : PySem.W.nsIn K da1 "double" = some (some (.ref f22)))
    (dx1_4 : PySem.W.nsIn K da1 "call" = some (some (.ref f23)))
    (dx1_5 : PySem.W.nsIn K da1 "again" = some (some (.ref f24))) :
    ∃ T : Tops w K mg, T.flaw = fa := by
  have e := hfa.symm.trans (PySem.W.mg_of X G a52)
  refine ⟨{ fis_name := f1, dis_name := _, Fis_name := (fun_mk (st := sis_name) l1 c1 k1), gis_name := (PySem.W.mg_of X G a1), frun_end := f2, drun_end := _, Frun_end := (fun_mk (st := srun_end) l2 c2 k2), grun_end := (PySem.W.mg_of X G a2), fword_end := f3, dword_end := _, Fword_end := (fun_mk (st := sword_end) l3 c3 k3), gword_end := (PySem.W.mg_of X G a3), fnumber_end := f4, dnumber_end := _, Fnumber_end := (fun_mk (st := snumber_end) l4 c4 k4), gnumber_end := (PySem.W.mg_of X G a4), fsign_end := f5, dsign_end := _, Fsign_end := (fun_mk (st := ssign_end) l5 c5 k5), gsign_end := (PySem.W.mg_of X G a5), fsigns_of := f6, dsigns_of := _, Fsigns_of := (fun_mk (st := ssigns_of) l6 c6 k6), gsigns_of := (PySem.W.mg_of X G a6), CReader := CReader, clReader := ⟨pgReader, hdReader, poReader, saReader⟩, gReader := (PySem.W.mg_of X G aCReader), naReader_signs := naReader_0, naReader_place := naReader_1, naReader_things := naReader_2, naReader_depth := naReader_3, fReader___init__ := f7, dReader___init__ := _, FReader___init__ := (fun_mk (st := sReader___init__) l7 c7 k7), mkReader := ⟨mkReader, a7, i7, kcReader⟩, fReader_sign := f8, dReader_sign := _, FReader_sign := (fun_mk (st := sReader_sign) l8 c8 k8), mtReader_sign := ⟨a8, i8, k8⟩, fReader_spot := f9, dReader_spot := _, FReader_spot := (fun_mk (st := sReader_spot) l9 c9 k9), mtReader_spot := ⟨a9, i9, k9⟩, fReader_take_if := f10, dReader_take_if := _, FReader_take_if := (fun_mk (st := sReader_take_if) l10 c10 k10), mtReader_take_if := ⟨a10, i10, k10⟩, fReader_take := f11, dReader_take := _, FReader_take := (fun_mk (st := sReader_take) l11 c11 k11), mtReader_take := ⟨a11, i11, k11⟩, fReader_take_name := f12, dReader_take_name := _, FReader_take_name := (fun_mk (st := sReader_take_name) l12 c12 k12), mtReader_take_name := ⟨a12, i12, k12⟩, fReader_take_number := f13, dReader_take_number := _, FReader_take_number := (fun_mk (st := sReader_take_number) l13 c13 k13), mtReader_take_number := ⟨a13, i13, k13⟩, fread_plan := f14, dread_plan := _, Fread_plan := (fun_mk (st := sread_plan) l14 c14 k14), gread_plan := (PySem.W.mg_of X G a14), fread_body := f15, dread_body := _, Fread_body := (fun_mk (st := sread_body) l15 c15 k15), gread_body := (PySem.W.mg_of X G a15), fread_thing := f16, dread_thing := _, Fread_thing := (fun_mk (st := sread_thing) l16 c16 k16), gread_thing := (PySem.W.mg_of X G a16), fread_bracket := f17, dread_bracket := _, Fread_bracket := (fun_mk (st := sread_bracket) l17 c17 k17), gread_bracket := (PySem.W.mg_of X G a17), fread_end := f18, dread_end := _, Fread_end := (fun_mk (st := sread_end) l18 c18 k18), gread_end := (PySem.W.mg_of X G a18), fread_step := f19, dread_step := _, Fread_step := (fun_mk (st := sread_step) l19 c19 k19), gread_step := (PySem.W.mg_of X G a19), fread_for := f20, dread_for := _, Fread_for := (fun_mk (st := sread_for) l20 c20 k20), gread_for := (PySem.W.mg_of X G a20), fread_if := f21, dread_if := _, Fread_if := (fun_mk (st := sread_if) l21 c21 k21), gread_if := (PySem.W.mg_of X G a21), fread_double := f22, dread_double := _, Fread_double := (fun_mk (st := sread_double) l22 c22 k22), gread_double := (PySem.W.mg_of X G a22), fread_call := f23, dread_call := _, Fread_call := (fun_mk (st := sread_call) l23 c23 k23), gread_call := (PySem.W.mg_of X G a23), fread_again := f24, dread_again := _, Fread_again := (fun_mk (st := sread_again) l24 c24 k24), gread_again := (PySem.W.mg_of X G a24), fl_begin := f25, dl_begin := _, Fl_begin := (fun_mk (st := sl_begin) l25 c25 k25), gl_begin := (PySem.W.mg_of X G a25), fl_end_text := f26, dl_end_text := _, Fl_end_text := (fun_mk (st := sl_end_text) l26 c26 k26), gl_end_text := (PySem.W.mg_of X G a26), fl_thing_text := f27, dl_thing_text := _, Fl_thing_text := (fun_mk (st := sl_thing_text) l27 c27 k27), gl_thing_text := (PySem.W.mg_of X G a27), fl_written := f28, dl_written := _, Fl_written := (fun_mk (st := sl_written) l28 c28 k28), gl_written := (PySem.W.mg_of X G a28), fl_take := f29, dl_take := _, Fl_take := (fun_mk (st := sl_take) l29 c29 k29), gl_take := (PySem.W.mg_of X G a29), fl_pick := f30, dl_pick := _, Fl_pick := (fun_mk (st := sl_pick) l30 c30 k30), gl_pick := (PySem.W.mg_of X G a30), fl_some_end := f31, dl_some_end := _, Fl_some_end := (fun_mk (st := sl_some_end) l31 c31 k31), gl_some_end := (PySem.W.mg_of X G a31), fl_leaf := f32, dl_leaf := _, Fl_leaf := (fun_mk (st := sl_leaf) l32 c32 k32), gl_leaf := (PySem.W.mg_of X G a32), fl_kept_words := f33, dl_kept_words := _, Fl_kept_words := (fun_mk (st := sl_kept_words) l33 c33 k33), gl_kept_words := (PySem.W.mg_of X G a33), fl_fresh := f34, dl_fresh := _, Fl_fresh := (fun_mk (st := sl_fresh) l34 c34 k34), gl_fresh := (PySem.W.mg_of X G a34), fl_drawn_thing := f35, dl_drawn_thing := _, Fl_drawn_thing := (fun_mk (st := sl_drawn_thing) l35 c35 k35), gl_drawn_thing := (PySem.W.mg_of X G a35), fl_drawn_body := f36, dl_drawn_body := _, Fl_drawn_body := (fun_mk (st := sl_drawn_body) l36 c36 k36), gl_drawn_body := (PySem.W.mg_of X G a36), fl_drawn := f37, dl_drawn := _, Fl_drawn := (fun_mk (st := sl_drawn) l37 c37 k37), gl_drawn := (PySem.W.mg_of X G a37), fl_spoilt_text := f38, dl_spoilt_text := _, Fl_spoilt_text := (fun_mk (st := sl_spoilt_text) l38 c38 k38), gl_spoilt_text := (PySem.W.mg_of X G a38), fl_same := f39, dl_same := _, Fl_same := (fun_mk (st := sl_same) l39 c39 k39), gl_same := (PySem.W.mg_of X G a39), fl_class := f40, dl_class := _, Fl_class := (fun_mk (st := sl_class) l40 c40 k40), gl_class := (PySem.W.mg_of X G a40), fl_tried := f41, dl_tried := _, Fl_tried := (fun_mk (st := sl_tried) l41 c41 k41), gl_tried := (PySem.W.mg_of X G a41), fl_cut_up := f42, dl_cut_up := _, Fl_cut_up := (fun_mk (st := sl_cut_up) l42 c42 k42), gl_cut_up := (PySem.W.mg_of X G a42), fl_figure := f43, dl_figure := _, Fl_figure := (fun_mk (st := sl_figure) l43 c43 k43), gl_figure := (PySem.W.mg_of X G a43), fl_is_name := f44, dl_is_name := _, Fl_is_name := (fun_mk (st := sl_is_name) l44 c44 k44), gl_is_name := (PySem.W.mg_of X G a44), fl_read_end := f45, dl_read_end := _, Fl_read_end := (fun_mk (st := sl_read_end) l45 c45 k45), gl_read_end := (PySem.W.mg_of X G a45), fl_read_leaf := f46, dl_read_leaf := _, Fl_read_leaf := (fun_mk (st := sl_read_leaf) l46 c46 k46), gl_read_leaf := (PySem.W.mg_of X G a46), fl_read_ends := f47, dl_read_ends := _, Fl_read_ends := (fun_mk (st := sl_read_ends) l47 c47 k47), gl_read_ends := (PySem.W.mg_of X G a47), fl_read_bracket := f48, dl_read_bracket := _, Fl_read_bracket := (fun_mk (st := sl_read_bracket) l48 c48 k48), gl_read_bracket := (PySem.W.mg_of X G a48), fl_read_thing := f49, dl_read_thing := _, Fl_read_thing := (fun_mk (st := sl_read_thing) l49 c49 k49), gl_read_thing := (PySem.W.mg_of X G a49), fl_read_body := f50, dl_read_body := _, Fl_read_body := (fun_mk (st := sl_read_body) l50 c50 k50), gl_read_body := (PySem.W.mg_of X G a50), fl_reading := f51, dl_reading := _, Fl_reading := (fun_mk (st := sl_reading) l51 c51 k51), gl_reading := (PySem.W.mg_of X G a51), flaw := f52, dlaw := _, Flaw := (fun_mk (st := slaw) l52 c52 k52), glaw := (PySem.W.mg_of X G a52), mabs := PySem.W.mg_none_of X G z1, mall := PySem.W.mg_none_of X G z2, mbool := PySem.W.mg_none_of X G z3, mint := PySem.W.mg_none_of X G z4, misinstance := PySem.W.mg_none_of X G z5, mlen := PySem.W.mg_none_of X G z6, mlist := PySem.W.mg_none_of X G z7, mmin := PySem.W.mg_none_of X G z8, mrange := PySem.W.mg_none_of X G z9, mread_rest := PySem.W.mg_none_of X G z10, msorted := PySem.W.mg_none_of X G z11, mstr := PySem.W.mg_none_of X G z12, mtuple := PySem.W.mg_none_of X G z13, mzip := PySem.W.mg_none_of X G z14, cMOST_LETTERS := ⟨_, PySem.W.mg_of X G v1, ⟨_, rfl⟩⟩, cMOST_NUMBER_FIGURES := ⟨_, PySem.W.mg_of X G v2, ⟨_, rfl⟩⟩, cMOST_NUMBER := ⟨_, PySem.W.mg_of X G v3, ⟨_, rfl⟩⟩, cMOST_AGAIN := ⟨_, PySem.W.mg_of X G v4, ⟨_, rfl⟩⟩, cMOST_THINGS := ⟨_, PySem.W.mg_of X G v5, ⟨_, rfl⟩⟩, cMOST_BRACKETS := ⟨_, PySem.W.mg_of X G v6, ⟨_, rfl⟩⟩, cLETTERS := ⟨_, PySem.W.mg_of X G v7, ⟨_, rfl⟩⟩, cFIGURES := ⟨_, PySem.W.mg_of X G v8, ⟨_, rfl⟩⟩, aNO_NAMES := va9, cNO_NAMES := ⟨_, PySem.W.mg_of X G v9, rfl⟩, tNO_NAMES := fun H => .inr ⟨_, _, _, w9, rfl, rfl, (by show 15 ≤ sizeLine; decide), (.cons ⟨_, rfl⟩ (.cons ⟨_, rfl⟩ (.cons ⟨_, rfl⟩ (.cons ⟨_, rfl⟩ (.cons ⟨_, rfl⟩ (.cons ⟨_, rfl⟩ (.cons ⟨_, rfl⟩ (.cons ⟨_, rfl⟩ (.cons ⟨_, rfl⟩ (.cons ⟨_, rfl⟩ (.cons ⟨_, rfl⟩ (.cons ⟨_, rfl⟩ (.cons ⟨_, rfl⟩ (.cons ⟨_, rfl⟩ (.cons ⟨_, rfl⟩ .nil)))))))))))))))⟩, cSINGLE_SIGNS := ⟨_, PySem.W.mg_of X G v10, ⟨_, rfl⟩⟩, aREADERS := da1, cREADERS := ⟨_, PySem.W.mg_of X G dv1, rfl⟩, eREADERS := de1, nREADERS := dn1, DREADERS := ⟨dl1, dk1, dw1⟩, kREADERS_step := ⟨_, _, _, dl1, dk1, dx1_0, rfl⟩, sREADERS_step := dx1_0, kREADERS_for := ⟨_, _, _, dl1, dk1, dx1_1, rfl⟩, sREADERS_for := dx1_1, kREADERS_if := ⟨_, _, _, dl1, dk1, dx1_2, rfl⟩, sREADERS_if := dx1_2, kREADERS_double := ⟨_, _, _, dl1, dk1, dx1_3, rfl⟩, sREADERS_double := dx1_3, kREADERS_call := ⟨_, _, _, dl1, dk1, dx1_4, rfl⟩, sREADERS_call := dx1_4, kREADERS_again := ⟨_, _, _, dl1, dk1, dx1_5, rfl⟩, sREADERS_again := dx1_5 }, ?_⟩
  cases e
  rfl
theorem law_fin {K : PySem.W.Frag} {h : Heap} {w : World} {mg : Str → Option Value} (X : K.In h) (G : h.Ns mainGlobals mg) (T : Tops w K mg) (E : Exx K mg) {f c P : Addr} {oc dV kV dc pm ct : Value} {od an dd : Option Addr} {sl sl2 : Array (Option Value)} {vs : Array Value} {fl : Str} {tf tg tt : Tok} {flags tx : Int} {inF : Bool}
    (aL : PySem.W.nsIn K mainGlobals "law" = some (some (.ref f))) (l : K.lookup f = some ⟨oc, od, .func (PySem.W.fnOf "law" "law" (defArgs slaw) (defBody slaw) (defScope slaw) dV kV dc pm an (.ref c) ct), sl⟩)
    (lc : K.lookup c = some ⟨.type "code", dd, .fields vs, sl2⟩) (h11 : vs[11]? = some (.ref P)) (g11 : vs.getD 11 .none = .ref P) (h18 : vs.getD 18 .none = .str fl tf) (h7 : vs.getD 7 .none = .int flags tg) (h9 : vs.getD 9 .none = .bool inF) (h10 : vs.getD 10 .none = .int tx tt) (ne : c ≠ P)
    (nP : K.lookup P = none) (hP : h.get? P = some { cls := .none, data := .fields #[] }) : LamX.LawAtS PySem.Challenge.rw_outgrow_k05_texts_that_are_no_plans w K C8.CX0 50 63 "_law_script" mg T.flaw h := by
  have e0 : T.flaw = f := by
    have z := T.glaw.symm.trans (PySem.W.mg_of X G aL)
    injection z with z
    injection z
  obtain ⟨oc', od', kV', doc', pm', an', cdv', ct', osl', e, lk, hcd⟩ := T.Flaw.ex
  rw [e0, l] at lk
  have e2 := Option.some.inj lk
  injection e2 with _ _ e3 _
  injection e3 with e4
  exact lawAt T E (by rw [← e4]) (codeHd_of X lc h11 g11 h18 h7 h9 h10 ne) hP nP
end K05
open PySem PySem.W PyProof.Rows
set_option maxRecDepth 100000 in
set_option maxHeartbeats 0 in
theorem PySem.Challenge.cw_outgrow_k05_texts_that_are_no_plans_holds : PySem.Challenge.rw_outgrow_k05_texts_that_are_no_plans.Holds := by
  w_on; o_law; k_head; (case hw => w_witness2)
  k_fill
  refine LamX.walk_ofTs (l := PySem.Challenge.rw_outgrow_k05_texts_that_are_no_plans) (n := 63) (k := 50) (x := "_law_script") (CX := fun _ => C8.CX0) rfl (by decide) rfl ⟨rfl, by decide, by decide⟩ (fun w h Y => PySem.W.km_in_of Y) ?F (fun _ _ _ _ _ h => h)
  case F =>
    intro w mg fa h Y KX G hmg
    have hT := K05.all_mk (w := w) KX G hmg (by k_is) (by k_is) (by k_is) (by k_is) (by k_is) (by k_is) (by k_is) (by k_is) (by k_is) (by k_is) (by k_is) (by k_is) (by k_is) (by k_is) (by k_is) (by k_is) (by k_is) (by k_is) (by k_is) (by k_is) (by k_is) (by k_is) (by k_is) (by k_is) (by k_is) (by k_is) (by k_is) (by k_is) (by k_is) (by k_is) (by k_is) (by k_is) (by k_is) (by k_is) (by k_is) (by k_is) (by k_is) (by k_is) (by k_is) (by k_is) (by k_is) (by k_is) (by k_is) (by k_is) (by k_is) (by k_is) (by k_is) (by k_is) (by k_is) (by k_is) (by k_is) (by k_is) (by k_is) (by k_is) (by k_is) (by k_is) (by k_is) (by k_is) (by k_is) (by k_is) (by k_is) (by k_is) (by k_is) (by k_is) (by k_is) (by k_is) (by k_is) (by k_is) (by k_is) (by k_is) (by k_is) (by k_is) (by k_is) (by k_is) (by k_is) (by k_is) (by k_is) (by k_is) (by k_is) (by k_is) (by k_is) (by k_is) (by k_is) (by k_is) (by k_is) (by k_is) (by k_is) (by k_is) (by k_is) (by k_is) (by k_is) (by k_is) (by k_is) (by k_is) (by k_is) (by k_is) (by k_is) (by k_is) (by k_is) (by k_is) (by k_is) (by k_is) (by k_is) (by k_is) (by k_is) (by k_is) (by k_is) (by k_is) (by k_is) (by k_is) (by k_is) (by k_is) (by k_is) (by k_is) (by k_is) (by k_is) (by k_is) (by k_is) (by k_is) (by k_is) (by k_is) (by k_is) (by k_is) (by k_is) (by k_is) (by k_is) (by k_is) (by k_is) (by k_is) (by k_is) (by k_is) (by k_is) (by k_is) (by k_is) (by k_is) (by k_is) (by k_is) (by k_is) (by k_is) (by k_is) (by k_is) (by k_is) (by k_is) (by k_is) (by k_is) (by k_is) (by k_is) (by k_is) (by k_is) (by k_is) (by k_is) (by k_is) (by k_is) (by k_is) (by k_is) (by k_is) (by k_is) (by k_is) (by k_is) (by k_is) (by k_is) (by k_is) (by k_is) (by k_is) (by k_is) (by k_is) (by k_is) (by k_is) (by k_is) (by k_is) (by k_is) (by k_is) (by k_is) (by k_is) (by k_is) (by k_is) (by k_is) (by k_is) (by k_is) (by k_is) (by k_is) (by k_is) (by k_is) (by k_is) (by k_is) (by k_is) (by k_is) (by k_is) (by k_is) (by k_is) (by k_is) (by k_is) (by k_is) (by k_is) (by k_is) (by k_is) (by k_is) (by k_is) (by k_is) (by k_is) (by k_is) (by k_is) (by k_is) (by k_is) (by k_is) (by k_is) (by k_is) (by k_is) (by k_is) (by k_is) (by k_is) (by k_is) (by k_is) (by k_is) (by k_is) (by k_is) (by k_is) (by k_is) (by k_is) (by k_is) (by k_is) (by k_is) (by k_is) (by k_is) (by k_is) (by k_is) (by k_is) (by k_is) (by k_is) (by k_is) (by k_is) (by k_is) (by k_is) (by k_is) (by k_is) (by k_is) (by k_is) (by k_is) (by k_is) (by k_is) (by k_is) (by k_is) (by k_is) (by k_is) (by k_is) (by k_is) (by k_is) (by k_is) (by k_is) (by k_is) (by k_is) (by k_is) (by k_is) (by exact ⟨⟨_, _, rfl, rfl⟩, ⟨_, _, rfl, rfl⟩, ⟨_, _, rfl, rfl⟩, ⟨_, _, rfl, rfl⟩, ⟨_, _, rfl, rfl⟩, ⟨_, _, rfl, rfl⟩, trivial⟩) (by rfl) (by k_is) (by k_is) (by k_is) (by k_is) (by k_is) (by k_is)
    obtain ⟨T, rfl⟩ := hT
    have hX := K05.exx_mk KX G (by first | k_is | rfl | decide +kernel) (by first | k_is | rfl | decide +kernel) (by first | k_is | rfl | decide +kernel) (by first | k_is | rfl | decide +kernel) (by first | k_is | rfl | decide +kernel) (by first | k_is | rfl | decide +kernel) (by first | k_is | rfl | decide +kernel) (by first | k_is | rfl | decide +kernel) (by first | k_is | rfl | decide +kernel) (by first | k_is | rfl | decide +kernel) (by first | k_is | rfl | decide +kernel) (by first | k_is | rfl | decide +kernel) (by first | k_is | rfl | decide +kernel) (by first | k_is | rfl | decide +kernel) (by first | k_is | rfl | decide +kernel) (by first | k_is | rfl | decide +kernel) (by first | k_is | rfl | decide +kernel) (by first | k_is | rfl | decide +kernel) (by first | k_is | rfl | decide +kernel) (by first | k_is | rfl | decide +kernel) (by first | k_is | rfl | decide +kernel) (by first | k_is | rfl | decide +kernel) (by first | k_is | rfl | decide +kernel) (by first | k_is | rfl | decide +kernel) (by first | k_is | rfl | decide +kernel) (by first | k_is | rfl | decide +kernel) (by first | k_is | rfl | decide +kernel) (by first | k_is | rfl | decide +kernel) (by first | k_is | rfl | decide +kernel) (by first | k_is | rfl | decide +kernel) (by first | k_is | rfl | decide +kernel) (by first | k_is | rfl | decide +kernel) (by first | k_is | rfl | decide +kernel) (by first | k_is | rfl | decide +kernel) (by first | k_is | rfl | decide +kernel) (by first | k_is | rfl | decide +kernel) (by first | k_is | rfl | decide +kernel) (by first | k_is | rfl | decide +kernel) (by first | k_is | rfl | decide +kernel) (by first | k_is | rfl | decide +kernel) (by first | k_is | rfl | decide +kernel) (by first | k_is | rfl | decide +kernel) (by first | k_is | rfl | decide +kernel) (by first | k_is | rfl | decide +kernel) (by first | k_is | rfl | decide +kernel) (by first | k_is | rfl | decide +kernel) (by first | k_is | rfl | decide +kernel) (by first | k_is | rfl | decide +kernel)
    obtain ⟨X⟩ := hX
    exact K05.law_fin KX G T X (by k_is) (by k_is) (by k_is) (by rfl) (by rfl) (by rfl) (by rfl) (by rfl) (by rfl) (by decide) (by first | k_is | rfl) (PySem.W.km_tabs_of Y _ (by first | decide | simp))

